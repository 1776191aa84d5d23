"""[95], [98], (G11): lost careless rows, in any grammar."""

import random

from stillends.lostrows import lost_within
from tests.chances import DOUBLE, LOST_TASKS, PALINDROMES, known_tasks, rich_grammar, rich_task
from tests.helpers import BAD_SHORTS, CUTS, FREE, FREE2, LONE, NEST, TASK, Case
from tests.test_carelessrows import LOW, lost_by_rows
from tests.test_setmachines import ONLY_A
from tests.test_trees import RING


class LostWithinTest(Case):
    def test_by_rows(self):
        chance = random.Random(95)
        found = 0
        for _ in range(300):
            task = rich_task(chance, rich_grammar(chance), most=3)
            most = chance.randint(0, 3)
            row = lost_by_rows(task, most)
            self.same(lost_within(task, most), row)
            found += bool(row)
        self.assertGreater(found, 10)

    def test_known_tasks(self):
        for task in known_tasks():
            self.same(lost_within(task, 2), lost_by_rows(task, 2))

    def test_example_and_edges(self):
        self.same((lost_within(LOW, 3), lost_within(TASK, 2)), ((0,), None))
        self.same((lost_within(LOW, 0), lost_within(LOW, 1), lost_within(LOW, 60)), (None, (0,), (0,)))
        for task in LOST_TASKS:
            for most in (0, 1, 60):
                self.same(lost_within(task, most), ())

    def test_the_first_one_by_length(self):
        # Both tokens are lost behind a; ab, one token, is lost, too, and comes first.
        task = (((("s",), 0, ((0, ("a", "b", "c")), (0, ("d",)))), ("a", "ab", "d"), FREE, "", "behind"))
        self.same(lost_within(task, 5), (0,))
        task = (NEST, ("ab", "a", "abb"), FREE, "", "behind")
        self.same(lost_within(task, 5), lost_by_rows(task, 3))

    def test_one_row_for_each_number_of_tokens(self):
        self.same(lost_within((ONLY_A, ("a",), (1, (0,), ((0,),)), "", "behind"), 60), None)
        self.same(lost_within((ONLY_A, ("aa",), (2, (0,), ((1,), (-1,))), "a", "healed"), 60), ())
        table = tuple((k + 1,) for k in range(59)) + ((-1,),)
        self.same(lost_within((ONLY_A, ("a",), (60, tuple(range(59)), table), "", "behind"), 58), None)
        self.same(lost_within((ONLY_A, ("a",), (60, tuple(range(59)), table), "", "behind"), 60), (0,) * 59)

    def test_any_grammar_is_let_in(self):
        for grammar in (RING, DOUBLE, PALINDROMES):
            for tokens, book in ((CUTS, FREE), (LONE, FREE2)):
                task = (grammar, tokens, book, "a", "healed")
                self.same(lost_within(task, 3), lost_by_rows(task, 3))

    def test_errors(self):
        self.refuses_all("NotUsable('most')", lost_within, (TASK,), BAD_SHORTS)
