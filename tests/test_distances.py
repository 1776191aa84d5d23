"""[104], [105]: distances of shares."""

import random
from fractions import Fraction

from stillends.cutweights import cut_share
from stillends.distances import distance
from stillends.stepweights import row_pairs
from stillends.tasks import is_good
from tests.chances import DOUBLE, LOST_TASKS, REGULAR, known_tasks, rich_writer, unlooped_grammar
from tests.helpers import BAD_SHORTS, EVEN, FREE2, NEST, TASK, Case, rows_upto
from tests.plainly import good_pairs, some_pairs
from tests.test_meankept import ratio
from tests.test_meanlengths import ENDLESS, SHORT
from tests.test_trees import RING

ONE = (1, (0,), ((0,),))


def distance_by_rows(task, writer, budget, pairs):
    """Half of the sum, row by row of all good rows; what the shares do not add up to never ends."""
    shares, found = Fraction(0), Fraction(0)
    for row in rows_upto(len(task[1]), budget):
        if is_good(task, row):
            share = Fraction(*cut_share(task, writer, budget, row))
            found += abs(share - Fraction(row_pairs(task, writer, budget, row), pairs))
            shares += share
    return ratio((found + 1 - shares) / 2)


class DistanceTest(Case):
    def test_by_rows(self):
        chance = random.Random(104)
        several = 0
        for _ in range(250):
            task, writer, budget, pairs = some_pairs(chance, unlooped_grammar, 3)
            if pairs:
                found = distance(task, writer, budget)
                self.same(found, distance_by_rows(task, writer, budget, len(pairs)))
                several += found[1] > 1
            else:
                self.refuses("NoTape", distance, task, writer, budget)
        self.assertGreater(several, 10)

    def test_known_tasks(self):
        chance = random.Random(1041)
        for task in known_tasks((NEST, DOUBLE)):
            writer = rich_writer(chance, len(task[1]))
            pairs = good_pairs(task, writer, 2)
            if pairs:
                self.same(distance(task, writer, 2), distance_by_rows(task, writer, 2, len(pairs)))

    def test_example_and_edges(self):
        self.same(distance(TASK, EVEN, 1), (3, 10))
        self.same((distance(TASK, EVEN, 0), distance(TASK, SHORT, 60)), ((0, 1), (0, 1)))

    def test_runs_that_never_end(self):
        # Behind b no END has weight, so that a third of the runs never ends; all good pairs say () or (0,).
        task = (REGULAR, ("a", "b"), FREE2, "", "behind")
        writer = (3, ((1, 1, 1), (2, 1, 0)), ((0, 1), (1, 1)))
        self.same(distance(task, writer, 1), (5, 12))
        for budget in (1, 2, 3):
            pairs = len(good_pairs(task, writer, budget))
            self.same(distance(task, writer, budget), distance_by_rows(task, writer, budget, pairs))

    def test_one_row_for_each_number_of_tokens(self):
        task = (REGULAR, ("a",), ONE, "", "behind")
        half = (2, ((1, 1),), ((0,),))
        pairs = sum(2 ** (60 - k) for k in range(61))
        own = [Fraction(2 ** (60 - k), pairs) for k in range(61)]
        cut = [Fraction(1, 2 ** (k + 1)) for k in range(60)] + [Fraction(1, 2**60)]
        self.same(distance(task, half, 60), ratio(sum(abs(one - other) for one, other in zip(own, cut)) / 2))

    def test_many_rows_and_great_weights(self):
        million = (10**6, ((3, 10**6 - 4, 1), (10**6 - 9, 2, 7)), ((0, 1), (1, 0)))
        top, bottom = distance((REGULAR, ("a", "b"), FREE2, "", "behind"), million, 8)
        self.assertTrue(0 < top < bottom)

    def test_errors(self):
        self.refuses_all("NotUsable('budget')", distance, (TASK, EVEN), BAD_SHORTS)
        self.refuses_all("NotUsable('budget')", distance, ((RING,) + TASK[1:], EVEN), BAD_SHORTS)
        for writer in (EVEN, ENDLESS):
            self.refuses("Looped(0)", distance, (RING,) + TASK[1:], writer, 1)
        self.refuses("NoTape", distance, TASK, ENDLESS, 2)
        for task in LOST_TASKS:
            self.refuses("NoTape", distance, task, EVEN, 3)
