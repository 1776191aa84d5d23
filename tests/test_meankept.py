"""[101]: shares kept."""

import random
from fractions import Fraction

from stillends.couples import kept
from stillends.meankept import mean_kept
from stillends.stepweights import step_weights
from stillends.tapes import says
from stillends.writers import state_behind
from tests.chances import DOUBLE, LOST_TASKS, NO_TEXTS, REGULAR, known_tasks, rich_writer, unlooped_grammar
from tests.helpers import BAD_SHORTS, EVEN, FREE2, NEST, PAIRS, TASK, Case
from tests.plainly import good_pairs, some_pairs
from tests.test_meanlengths import ENDLESS, SHORT
from tests.test_trees import RING


def ratio(fraction):
    return (fraction.numerator, fraction.denominator)


def mean_by_pairs(task, writer, budget, draft, pairs):
    """The mean of the sums of the shares kept, pair by pair."""
    shares = {}
    found = Fraction(0)
    for tape, _ in pairs:
        row = says(task[1], writer, tape)[0]
        for k in range(len(row) + 1):
            begin = row[:k]
            if begin not in shares:
                target = step_weights(task, writer, budget, begin)
                drafted = draft[1][state_behind(task[1], draft, begin)]
                shares[begin] = Fraction(kept(target, drafted), sum(target) * draft[0])
            found += shares[begin]
    return ratio(found / len(pairs))


class MeanKeptTest(Case):
    def test_by_pairs(self):
        chance = random.Random(101)
        several = 0
        for _ in range(250):
            task, writer, budget, pairs = some_pairs(chance, unlooped_grammar, 3)
            draft = rich_writer(chance, len(task[1]))
            if pairs:
                found = mean_kept(task, writer, budget, draft)
                self.same(found, mean_by_pairs(task, writer, budget, draft, pairs))
                several += found[1] > 1
            else:
                self.refuses("NoTape", mean_kept, task, writer, budget, draft)
        self.assertGreater(several, 40)

    def test_known_tasks(self):
        chance = random.Random(1011)
        for task in known_tasks((NEST, PAIRS, DOUBLE)):
            writer, draft = rich_writer(chance, len(task[1])), rich_writer(chance, len(task[1]))
            pairs = good_pairs(task, writer, 2)
            if pairs:
                self.same(mean_kept(task, writer, 2, draft), mean_by_pairs(task, writer, 2, draft, pairs))

    def test_example_and_edges(self):
        self.same(mean_kept(TASK, EVEN, 1, EVEN), (1, 2))
        # A draft that proposes what cannot come keeps nothing; one that proposes just END keeps all at the row ().
        self.same(mean_kept(TASK, SHORT, 60, (1, ((0, 1, 0, 0),), ((0, 0, 0),))), (0, 1))
        self.same(mean_kept(TASK, SHORT, 60, SHORT), (1, 1))
        self.same(mean_kept(TASK, EVEN, 0, SHORT), (1, 1))

    def test_all_is_kept_if_the_draft_is_the_target(self):
        # At each row of two tokens END has all weight, at each other one each choice a third.
        task = (REGULAR, ("a", "b"), (3, (2,), ((1, 1), (2, 2), (-1, -1))), "", "behind")
        half = (2, ((1, 1, 0), (1, 1, 0), (0, 0, 2)), ((1, 1), (2, 2), (2, 2)))
        self.same(mean_kept(task, half, 2, half), (3, 1))

    def test_errors(self):
        self.refuses_all("NotUsable('budget')", mean_kept, (TASK, EVEN), BAD_SHORTS, (EVEN,))
        self.refuses_all("NotUsable('budget')", mean_kept, ((RING,) + TASK[1:], EVEN), BAD_SHORTS, (EVEN,))
        self.refuses("Looped(0)", mean_kept, (RING,) + TASK[1:], EVEN, 1, EVEN)
        self.refuses("Looped(0)", mean_kept, (RING,) + TASK[1:], ENDLESS, 1, EVEN)
        self.refuses("NoTape", mean_kept, TASK, ENDLESS, 2, EVEN)
        self.refuses("NoTape", mean_kept, (NO_TEXTS,) + TASK[1:], EVEN, 60, EVEN)
        for task in LOST_TASKS:
            self.refuses("NoTape", mean_kept, task, EVEN, 3, EVEN)
        self.same(mean_kept((REGULAR, ("a", "b"), FREE2, "", "behind"), (3, ((1, 1, 1),), ((0, 0),)), 0, (1, ((1, 0, 0),), ((0, 0),))), (0, 1))
