"""[90], [92], (G10): whether tokens spell texts in one way."""

import random

from stillends.judges import judge
from stillends.listings import texts_upto
from stillends.onerow import one_row
from stillends.respells import rows_of
from tests.chances import LOST_TASKS, NO_TEXTS, known_tasks, rich_grammar, rich_task
from tests.helpers import CUTS, FREE, FREE2, LONE, NEST, TASK, Case
from tests.proofs import takes_texts
from tests.test_setmachines import A_OR_B, FULL, ONLY_A, OVER
from tests.test_spelledall import DEEP_TREE
from tests.test_trees import RING

ONE = (1, (0,), ((0,),))


class OneRowTest(Case):
    def check(self, task, most):
        """The answer as the list of texts with at most so many letters tells it; it returns its first element."""
        answer = one_row(task)
        doubled = [text for text in texts_upto(task[0], most) if len(rows_of(task, text)) > 1]
        if answer[0] == "one":
            self.same(doubled, [])
        else:
            _, text, row, other, _ = answer
            rows = rows_of(task, text)
            self.assertTrue(row in rows and other in rows and row != other)
            self.same(min([len(text)] + [len(one) for one in doubled[:1]]), len(text))
            self.assertTrue(text in doubled or len(text) > most)
        self.same(judge(task, "one", answer), True)
        self.same(takes_texts(task, "one", answer), True)
        return answer[0]

    def test_by_lists(self):
        chance = random.Random(90)
        words = [self.check(rich_task(chance, rich_grammar(chance), most=5), 6) for _ in range(300)]
        self.assertGreater(min(words.count("one"), words.count("two")), 15)

    def test_known_tasks(self):
        for task in known_tasks()[::2]:
            self.check(task, 6)

    def test_example(self):
        told = one_row(TASK)
        self.same((told[:2], sorted(told[2:4])), (("two", "ab"), [(0, 1), (2,)]))
        self.same(one_row((NEST, LONE, FREE2, "", "behind"))[0], "one")

    def test_the_empty_text_and_no_text(self):
        # There is just one row without tokens.
        self.same(one_row((DEEP_TREE, ("a", "aa"), FREE2, "", "behind"))[0], "one")
        for task in LOST_TASKS:
            self.same(self.check(task, 6), "one")
        self.same(one_row((NO_TEXTS,) + TASK[1:]), ("one", ()))

    def test_texts_of_60_letters_and_of_61(self):
        # Behind what is begun, two rows spell aa.
        for many in (0, 1, 58):
            answer = one_row((ONLY_A, ("a", "aa"), FREE2, "a" * many, "behind"))
            self.same(answer[:2], ("two", "a" * (many + 2)))
            self.same(judge((ONLY_A, ("a", "aa"), FREE2, "a" * many, "behind"), "one", answer), True)
        self.refuses("TooMuch('text')", one_row, (ONLY_A, ("a", "aa"), FREE2, "a" * 59, "behind"))
        answer = one_row((ONLY_A, ("a", "aa"), FREE2, "a" * 60, "healed"))
        self.same((answer[:2], len(answer[2]) <= 60), (("two", "a" * 60), True))
        self.refuses("TooMuch('text')", one_row, (ONLY_A, ("a", "aa"), FREE2, "a" * 61, "healed"))

    def test_books_that_let_one_row_alone(self):
        for grammar in (A_OR_B, RING):
            task = (grammar, ("a", "aa"), (2, (0, 1), ((1, -1), (-1, -1))), "", "behind")
            self.check(task, 5)
        # ab is a token, or a and b behind one another if the book lets that.
        self.same(self.check((A_OR_B, CUTS, (2, (0, 1), ((1, 0, 0), (1, -1, 0))), "", "behind"), 5), "one")

    def test_too_many_states(self):
        self.refuses("TooMuch('states')", one_row, OVER)
        self.refuses("TooMuch('text')", one_row, FULL)
        self.same(one_row((A_OR_B, ("a",), ONE, "b", "healed"))[0], "one")
        self.same(one_row((A_OR_B, CUTS, FREE, "", "healed"))[:2], ("two", "ab"))
