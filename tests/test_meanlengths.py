"""[82]: mean numbers of tokens."""

import random
from fractions import Fraction

from stillends.meanlengths import mean_length
from stillends.tapes import says
from tests.chances import DOUBLE, LOST_TASKS, NO_TEXTS, REGULAR, known_tasks, rich_writer, unlooped_grammar
from tests.helpers import BAD_SHORTS, CUTS, EVEN, FREE, FREE2, NEST, PAIRS, TASK, Case
from tests.plainly import good_pairs, some_pairs
from tests.test_trees import RING

ONE = (1, (0,), ((0,),))
# Never ends, and always ends at once.
ENDLESS = (1, ((1, 0, 0, 0),), ((0, 0, 0),))
SHORT = (1, ((0, 0, 0, 1),), ((0, 0, 0),))


def mean_by_pairs(task, writer, pairs):
    """The mean number of tokens, pair by pair."""
    mean = Fraction(sum(len(says(task[1], writer, tape)[0]) for tape, _ in pairs), len(pairs))
    return (mean.numerator, mean.denominator)


class MeanLengthTest(Case):
    def test_by_pairs(self):
        chance = random.Random(82)
        several = 0
        for _ in range(250):
            task, writer, budget, pairs = some_pairs(chance, unlooped_grammar, 3)
            if pairs:
                found = mean_length(task, writer, budget)
                self.same(found, mean_by_pairs(task, writer, pairs))
                several += found[1] > 1
            else:
                self.refuses("NoTape", mean_length, task, writer, budget)
        self.assertGreater(several, 20)

    def test_known_tasks(self):
        chance = random.Random(821)
        for task in known_tasks((NEST, PAIRS, DOUBLE)):
            writer = rich_writer(chance, len(task[1]))
            pairs = good_pairs(task, writer, 2)
            if pairs:
                self.same(mean_length(task, writer, 2), mean_by_pairs(task, writer, pairs))

    def test_examples_and_lowest_terms(self):
        self.same(mean_length(TASK, EVEN, 1), (1, 5))
        self.same(mean_length(TASK, EVEN, 0), (0, 1))
        self.same(mean_length(TASK, SHORT, 60), (0, 1))
        # Of two and four pairs, with no and one token.
        self.same(mean_length((REGULAR, ("a", "b"), FREE2, "", "behind"), (4, ((1, 1, 2),), ((0, 0),)), 1), (1, 3))

    def test_big_numbers(self):
        # A text of a with any number of them: each of the budget's tokens is written, or the row is ended.
        task = (REGULAR, ("a",), ONE, "", "behind")
        half = (2, ((1, 1),), ((0,),))
        self.same(mean_length(task, half, 60), mean_of_half(60))
        never = (10**6, ((10**6, 0), (0, 10**6)), ((1,), (1,)))
        self.same(mean_length(task, never, 60), (1, 1))

    def test_trees_count(self):
        # Four tapes say a, with one tree, two say aa, with one, and one says aaa, with two.
        task = (DOUBLE, ("a",), ONE, "", "behind")
        self.same(mean_length(task, (2, ((1, 1),), ((0,),)), 3), (7, 4))

    def test_errors(self):
        self.refuses_all("NotUsable('budget')", mean_length, (TASK, EVEN), BAD_SHORTS)
        self.refuses_all("NotUsable('budget')", mean_length, ((RING,) + TASK[1:], EVEN), BAD_SHORTS)
        for writer in (EVEN, ENDLESS):
            self.refuses("Looped(0)", mean_length, (RING,) + TASK[1:], writer, 2)
        self.refuses("NoTape", mean_length, TASK, ENDLESS, 2)
        self.refuses("NoTape", mean_length, (NO_TEXTS,) + TASK[1:], EVEN, 60)
        for task in LOST_TASKS:
            self.refuses("NoTape", mean_length, task, EVEN, 3)
        # In "healed" one token is needed.
        self.refuses("NoTape", mean_length, (NEST, CUTS, FREE, "ab", "healed"), EVEN, 0)


def mean_of_half(budget):
    """The mean for a writer that ends or goes on in one of two ways at each step, in a grammar that lets all."""
    pairs = sum(2 ** (budget - k) for k in range(budget + 1))
    mean = Fraction(sum(k * 2 ** (budget - k) for k in range(budget + 1)), pairs)
    return (mean.numerator, mean.denominator)
