"""[83], [87], (G9): likeliest rows."""

import random

from stillends.besttapes import likeliest
from stillends.ceilings import judge_likeliest
from stillends.tapes import tapes_of
from stillends.tasks import is_good
from stillends.totals import total
from tests.chances import (
    DOUBLE, DYCK, LOST_TASKS, REGULAR, known_tasks, rich_grammar, rich_task, rich_writer, unlooped_grammar,
)
from tests.helpers import BAD_SHORTS, CUTS, EVEN, FREE, FREE2, NEST, TASK, Case, rows_upto
from tests.proofs import takes_likeliest
from tests.test_spelledall import DEEP_TREE
from tests.test_trees import ODD_ONES, RING

ENDLESS = (1, ((1, 0, 0, 0),), ((0, 0, 0),))


def most_tapes(task, writer, budget):
    """The most tapes of a good row, row by row."""
    rows = [row for row in rows_upto(len(task[1]), budget) if is_good(task, row)]
    return max((tapes_of(task[1], writer, row, budget) for row in rows), default=0)


class LikeliestTest(Case):
    def check(self, task, writer, budget):
        """The answer has the most tapes, by all rows, and is taken; it returns how many these are."""
        row, tapes, ceilings = answer = likeliest(task, writer, budget)
        self.same(tapes, most_tapes(task, writer, budget))
        self.same(row is None, tapes == 0)
        if row is not None:
            self.same((is_good(task, row), tapes_of(task[1], writer, row, budget)), (True, tapes))
        self.same(judge_likeliest(task, writer, budget, answer), True)
        if len(ceilings) < 60:
            self.same(takes_likeliest(task, writer, budget, answer), True)
        self.same(likeliest(task, writer, budget), answer)
        return tapes

    def test_by_rows(self):
        chance = random.Random(83)
        several = 0
        for _ in range(300):
            task = rich_task(chance, rich_grammar(chance), most=3)
            several += self.check(task, rich_writer(chance, len(task[1])), chance.randint(0, 4)) > 1
        self.assertGreater(several, 60)

    def test_known_tasks(self):
        chance = random.Random(831)
        for task in known_tasks():
            self.check(task, rich_writer(chance, len(task[1])), 2)

    def test_looped_names_are_let_in(self):
        for grammar in (RING, (("s", "t"), 0, ((0, (1,)), (0, ("a",)), (1, (0,)), (1, ("b", 1)), (1, ())))):
            for budget in (0, 1, 3):
                self.check((grammar,) + TASK[1:], EVEN, budget)
        self.check((ODD_ONES,) + TASK[1:], EVEN, 3)

    def test_none_exactly_if_there_is_no_good_pair(self):
        chance = random.Random(832)
        for _ in range(200):
            task = rich_task(chance, unlooped_grammar(chance), most=3)
            writer = rich_writer(chance, len(task[1]))
            self.same(likeliest(task, writer, 3)[0] is None, total(task, writer, (), 3) == 0)
        for task in LOST_TASKS:
            self.same(likeliest(task, EVEN, 3)[:2], (None, 0))
        self.same(likeliest(TASK, ENDLESS, 3)[:2], (None, 0))

    def test_rows_by_ways_that_are_alike(self):
        # Behind a and behind b the same letters come, but the book takes rows with b alone.
        grammar = (("s", "t"), 0, ((0, (1, "c", "d")), (1, ("a",)), (1, ("b",))))
        table = ((1, 2, -1, -1, -1), (-1, -1, 3, 3, -1), (-1, -1, 4, 4, -1), (-1, -1, -1, -1, 3), (-1, -1, -1, -1, 4))
        for tokens in (("a", "b", "cd", "c", "d"), ("a", "b", "cd", "x", "d"), ("a", "b", "x", "c", "d")):
            even = (6, ((1,) * 6,), ((0,) * 5,))
            task = (grammar, tokens, (5, (4,), table), "", "behind")
            self.check(task, even, 3)
            self.same(likeliest(task, even, 3)[0][0], 1)

    def test_rows_by_less_likely_beginnings(self):
        # b is likelier than a, but c is likelier behind a.
        grammar = (("s", "t"), 0, ((0, (1, "c")), (1, ("a",)), (1, ("b",))))
        task = (grammar, ("a", "b", "c"), (4, (3,), ((1, 2, -1), (-1, -1, 3), (-1, -1, 3), (-1, -1, -1))), "", "behind")
        writer = (10, ((2, 5, 3, 0), (0, 0, 9, 1), (0, 0, 1, 9), (0, 0, 0, 10)), ((1, 2, 3), (3, 3, 3), (3, 3, 3), (3, 3, 3)))
        self.same(likeliest(task, writer, 2)[:2], ((0, 2), 180))
        self.check(task, writer, 2)

    def test_rows_of_parts_with_any_number_of_tokens(self):
        # Three tokens in all: of some letters a and some letters b, and of some others.
        grammar = (("s", "t", "u"), 0, ((0, (1, 2)), (1, ("a",)), (1, ("a", "a")), (2, ("b",)), (2, ("b", "b"))))
        book = (4, (3,), ((1, 1), (2, 2), (3, 3), (-1, -1)))
        task = (grammar, ("a", "b"), book, "", "behind")
        for weights, row in (((5, 1, 1), (0, 0, 1)), ((1, 5, 1), (0, 1, 1))):
            writer = (7, (weights,), ((0, 0),))
            answer = likeliest(task, writer, 4)
            self.same(answer[:2], (row, 25 * 7))
            self.same(judge_likeliest(task, writer, 4, answer), True)
            for ceilings in (answer[2], answer[2][::-1]):
                # The entry for all three tokens has to cover both ways.
                self.assertIn((0, 0, 0, 3, 0, 3, 25), ceilings)
                lesser = tuple(entry[:6] + (24,) if entry == (0, 0, 0, 3, 0, 3, 25) else entry for entry in ceilings)
                self.same(judge_likeliest(task, writer, 4, (row, 25 * 7, lesser)), False)

    def test_no_entry_is_in_vain(self):
        chance = random.Random(833)
        for _ in range(150):
            task = rich_task(chance, rich_grammar(chance), most=3)
            writer = rich_writer(chance, len(task[1]))
            row, tapes, ceilings = likeliest(task, writer, 3)
            for k in chance.sample(range(len(ceilings)), min(3, len(ceilings))):
                less = ceilings[:k] + (ceilings[k][:6] + (ceilings[k][6] - 1,),) + ceilings[k + 1 :]
                self.same(judge_likeliest(task, writer, 3, (row, tapes, less)), False)
                self.same(judge_likeliest(task, writer, 3, (row, tapes, ceilings[:k] + ceilings[k + 1 :])), False)

    def test_large_trees_without_letters(self):
        names, _, rules = DEEP_TREE
        task = ((names, 0, ((0, (1, "a", 1)),) + rules[1:]), ("a",), (1, (0,), ((0,),)), "", "behind")
        self.same(likeliest(task, (2, ((1, 1),), ((0,),)), 3)[:2], ((0,), 4))

    def test_example_and_edges(self):
        self.same(likeliest(TASK, EVEN, 1)[:2], ((), 4))
        self.same(likeliest(TASK, EVEN, 0)[:2], ((), 1))
        # END has no weight ahead of the first token.
        late = (4, ((1, 1, 2, 0), (0, 0, 0, 4)), ((0, 0, 1), (1, 1, 1)))
        self.same(likeliest(TASK, late, 2)[:2], ((2,), 32))
        self.same(likeliest(TASK, late, 0)[:2], (None, 0))

    def test_long_rows_and_big_numbers(self):
        million = (10**6, ((999998, 1, 1), (1, 999998, 1)), ((0, 1), (1, 0)))
        task = (REGULAR, ("a", "b"), (2, (1,), ((1, 0), (0, 1))), "", "behind")
        answer = likeliest(task, million, 60)
        self.same(answer[:2], ((0,), 999998 * 1 * 10 ** (6 * 59)))
        self.same(judge_likeliest(task, million, 60, answer), True)
        # Just one row is long enough: 60 tokens.
        task = (NEST, ("a", "b"), FREE2, "a" * 60, "behind")
        answer = likeliest(task, (3, ((1, 1, 1),), ((0, 0),)), 60)
        self.same(answer[:2], ((1,) * 60, 1))
        self.same(judge_likeliest(task, (3, ((1, 1, 1),), ((0, 0),)), 60, answer), True)
        self.same(likeliest(task, (3, ((1, 1, 1),), ((0, 0),)), 59)[:2], (None, 0))

    def test_many_places_and_states(self):
        writer = (10**6, tuple((3 + k, 10**6 - 10 - k, 2, 5) for k in range(12)), tuple((k, k, 0) for k in range(12)))
        task = (NEST, CUTS, FREE, "a" * 200 + "b" * 190, "behind")
        answer = likeliest(task, writer, 20)
        self.same(answer[0], (1,) * 10)
        self.same(judge_likeliest(task, writer, 20, answer), True)
        for task in ((DOUBLE, CUTS, FREE, "ab" * 12, "healed"), (DYCK, CUTS, FREE, "aab" * 9, "behind")):
            answer = likeliest(task, EVEN, 30)
            self.same(judge_likeliest(task, EVEN, 30, answer), True)

    def test_errors(self):
        self.refuses_all("NotUsable('budget')", likeliest, (TASK, EVEN), BAD_SHORTS)
