"""[91], [92], (G10): whether tokens are needed."""

import random

from stillends.judges import judge
from stillends.listings import texts_upto
from stillends.respells import rows_of
from stillends.sparing import needless
from tests.chances import LOST_TASKS, NO_TEXTS, known_tasks, rich_grammar, rich_task
from tests.helpers import CUTS, DEEP, FREE, FREE2, NEST, ODD, TASK, Case
from tests.proofs import takes_texts
from tests.test_setmachines import A_OR_B, ONLY_A, OVER_SPARED
from tests.test_trees import RING

# For tokens that are three.
NO_DROPS = ODD + ((), (3,), (-1,), (1, 0), (0, 0), (0, True), (False,), [0], (0, 1, 2, 3), 0, "", "0", ("0",), ((0,),), DEEP)


class NeedlessTest(Case):
    def check(self, task, drop, most):
        """The answer as the list of texts with at most so many letters tells it; it returns its first element."""
        answer = needless(task, drop)
        wanting = []
        for text in texts_upto(task[0], most):
            rows = rows_of(task, text)
            if rows and all(set(row) & set(drop) for row in rows):
                wanting.append(text)
        if answer[0] == "needless":
            self.same(wanting, [])
        else:
            self.assertTrue(answer[1] in wanting or len(answer[1]) > most)
            self.same(len(answer[1]), min([len(answer[1])] + [len(one) for one in wanting]))
        self.same(judge(task, ("needless", drop), answer), True)
        self.same(takes_texts(task, ("needless", drop), answer), True)
        return answer[0]

    def test_by_lists(self):
        chance = random.Random(91)
        words = []
        for _ in range(250):
            task = rich_task(chance, rich_grammar(chance), most=4)
            many = len(task[1])
            words.append(self.check(task, tuple(sorted(chance.sample(range(many), chance.randint(1, many)))), 6))
        self.assertGreater(min(words.count("needless"), words.count("needed")), 40)

    def test_known_tasks(self):
        for task in known_tasks()[::3]:
            for drop in ((0,), (len(task[1]) - 1,), tuple(range(len(task[1])))):
                self.check(task, drop, 6)

    def test_example(self):
        self.same((needless(TASK, (2,))[0], needless(TASK, (1,))[:2]), ("needless", ("needed", "aabb")))

    def test_drop_of_all_tokens_and_of_one(self):
        self.same(needless(TASK, (0, 1, 2))[:2], ("needed", "ab"))
        self.same(needless(TASK, (0, 1))[:2], ("needed", "aabb"))
        # Behind ab no token may come, and the row without tokens needs none.
        self.same(needless((NEST, CUTS, FREE, "ab", "behind"), (0, 1, 2))[0], "needless")

    def test_start_that_is_not_useful(self):
        for task in LOST_TASKS:
            self.same(self.check(task, (0, 1), 6), "needless")
        self.same(needless((NO_TEXTS,) + TASK[1:], (0,)), ("needless", ()))

    def test_texts_of_60_letters_and_of_61(self):
        for many in (1, 59):
            task = (ONLY_A, ("a", "aa"), FREE2, "a" * many, "behind")
            self.same(needless(task, (0,))[:2], ("needed", "a" * (many + 1)))
        self.refuses("TooMuch('text')", needless, (ONLY_A, ("a", "aa"), FREE2, "a" * 60, "behind"), (0,))
        self.refuses("TooMuch('text')", needless, (ONLY_A, ("a", "aa"), FREE2, "a" * 61, "healed"), (0,))
        self.same(needless((ONLY_A, ("a", "aa"), FREE2, "a" * 60, "behind"), (1,))[0], "needless")

    def test_looped_names_are_let_in(self):
        for drop in ((0,), (1,), (0, 2)):
            self.check((RING,) + TASK[1:], drop, 4)

    def test_errors(self):
        self.refuses_all("NotUsable('drop')", needless, (TASK,), NO_DROPS)
        self.refuses_all("NotUsable('drop')", needless, (OVER_SPARED,), NO_DROPS)
        self.refuses("TooMuch('states')", needless, OVER_SPARED, (0,))
        self.same(needless((A_OR_B, ("a", "b", "aa"), FREE, "", "healed"), (2,))[0], "needless")
