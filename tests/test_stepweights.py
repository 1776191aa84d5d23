"""[79], [87], (G8): how good pairs are shared out."""

import random
from collections import Counter

from stillends.masks import mask
from stillends.stepweights import row_pairs, step_weights
from stillends.tapes import says, tapes_of
from stillends.tasks import is_good, letters_read
from stillends.totals import total
from stillends.treecounts import count_trees
from tests.chances import (
    DOUBLE, DYCK, LEFT, LISTS, LOST_TASKS, PALINDROMES, REGULAR, beginning_of_good_row, known_tasks, rich_writer,
    unlooped_grammar,
)
from tests.helpers import BAD_ROWS, BAD_SHORTS, CUTS, EVEN, FREE, FREE2, NEST, PAIRS, TASK, Case, rows_upto
from tests.plainly import some_pairs
from tests.test_trees import RING


def shared_out(task, said, row):
    """How many good pairs say rows that begin with row, by what comes next; said has the number for each row."""
    found = [0] * (len(task[1]) + 1)
    for other, many in said.items():
        if other[: len(row)] == row:
            found[other[len(row)] if len(other) > len(row) else -1] += many
    return tuple(found)


class StepWeightsTest(Case):
    def test_by_all_good_pairs(self):
        chance = random.Random(79)
        positive = 0
        for _ in range(200):
            task, writer, budget, pairs = some_pairs(chance, unlooped_grammar, 3)
            said = Counter(says(task[1], writer, tape)[0] for tape, _ in pairs)
            for row in rows_upto(len(task[1]), 2)[:12]:
                expected = shared_out(task, said, row)
                self.same(step_weights(task, writer, budget, row), expected)
                self.same(row_pairs(task, writer, budget, row), expected[-1])
                positive += any(expected)
        self.assertGreater(positive, 80)

    def test_consequences(self):
        """[87], and (G8): the pairs of a good row are its tapes times its trees."""
        chance = random.Random(87)
        for task in known_tasks((NEST, PAIRS, DYCK, LISTS, LEFT, PALINDROMES, DOUBLE)):
            writer = rich_writer(chance, len(task[1]))
            budget = chance.randint(1, 7)
            row = beginning_of_good_row(chance, task, 3)
            found = step_weights(task, writer, budget, row)
            fitting, may_end = mask(task, row, max(budget - len(row), 0))
            if row == ():
                self.same(sum(found), total(task, writer, (), budget))
            for token, pairs in enumerate(found[:-1]):
                other = row + (token,)
                if len(other) <= budget:
                    self.same(sum(step_weights(task, writer, budget, other)), pairs)
                self.assertTrue(pairs == 0 or token in fitting)
            self.assertTrue(found[-1] == 0 or may_end)
            trees = count_trees(task[0], letters_read(task, row)) if is_good(task, row) else 0
            self.same(row_pairs(task, writer, budget, row), trees * tapes_of(task[1], writer, row, budget))

    def test_example(self):
        self.same((step_weights(TASK, EVEN, 1, ()), row_pairs(TASK, EVEN, 1, (2,))), ((0, 0, 1, 4), 1))
        self.same(step_weights(TASK, EVEN, 2, (0,)), (0, 1, 0, 0))

    def test_edges(self):
        self.same((step_weights(TASK, EVEN, 1, (0, 1)), row_pairs(TASK, EVEN, 1, (0, 1))), ((0,) * 4, 0))
        self.same((step_weights(TASK, EVEN, 0, (0,) * 60), row_pairs(TASK, EVEN, 0, (0,) * 60)), ((0,) * 4, 0))
        self.same(step_weights(TASK, EVEN, 2, (0, 1)), (0, 0, 0, 1))
        row = (0,) * 30 + (1,) * 30
        self.same((step_weights(TASK, EVEN, 60, row), row_pairs(TASK, EVEN, 60, row)), ((0, 0, 0, 1), 1))
        self.same(step_weights(TASK, EVEN, 60, row[:59]), (0, 1, 0, 0))
        # Weights of 0, of a token on the way, and of END.
        self.same(step_weights(TASK, (4, ((0, 1, 1, 2),), ((0, 0, 0),)), 3, (0,)), (0,) * 4)
        self.same(step_weights(TASK, (4, ((2, 1, 1, 0),), ((0, 0, 0),)), 3, ()), (0,) * 4)
        for task in LOST_TASKS:
            self.same((step_weights(task, EVEN, 9, ()), row_pairs(task, EVEN, 9, ())), ((0,) * 4, 0))
        self.same(step_weights((NEST, CUTS, FREE, "a", "healed"), EVEN, 2, (1,)), (0,) * 4)

    def test_big_numbers(self):
        chance = 10**6
        writer = (chance, ((chance - 2, 1, 1),), ((0, 0),))
        task = (REGULAR, ("a", "b"), FREE2, "ab" * 200, "behind")
        rest = chance**60 - (chance - 1) ** 60
        self.same(step_weights(task, writer, 60, ()), ((chance - 2) * rest, rest, chance**60))
        self.same(step_weights(task, writer, 60, (1,) * 59), (chance - 2, 1, chance))
        self.same(row_pairs(task, writer, 60, (1,) * 59), chance)

    def test_sequence_of_errors(self):
        self.refuses_all("NotUsable('budget')", step_weights, (TASK, EVEN), BAD_SHORTS, (None,))
        self.refuses_all("NotUsable('budget')", row_pairs, (TASK, EVEN), BAD_SHORTS, ((),))
        for function in (step_weights, row_pairs):
            self.refuses_all("NotUsable('row')", function, (TASK, EVEN, 2), BAD_ROWS)
            self.refuses_all("NotUsable('row')", function, ((RING,) + TASK[1:], EVEN, 2), BAD_ROWS)
            for row in ((), (0, 0, 0), (1,)):
                self.refuses("Looped(0)", function, (RING,) + TASK[1:], EVEN, 2, row)
