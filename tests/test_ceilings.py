"""[84], [87]: whether answers show a likeliest row."""

import random

from stillends.besttapes import likeliest
from stillends.ceilings import judge_likeliest
from tests.chances import rich_grammar, rich_task, rich_writer
from tests.helpers import BAD_SHORTS, DEEP, EVEN, ODD, TASK, Case
from tests.proofs import bent, takes_likeliest
from tests.test_trees import ODD_ONES

GOOD = ((), 1, ((1, 0, 0, 1, 0, 0, 1), (0, 0, 0, 0, 0, 0, 1)))
ENDLESS = (1, ((1, 0, 0, 0),), ((0, 0, 0),))


class JudgeLikeliestTest(Case):
    def test_bent_answers_by_the_conditions(self):
        chance = random.Random(84)
        taken = []
        for _ in range(150):
            task = rich_task(chance, rich_grammar(chance), most=3)
            writer = rich_writer(chance, len(task[1]))
            budget = chance.randint(0, 2)
            answer = likeliest(task, writer, budget)
            if len(answer[2]) < 150:
                for _ in range(12):
                    other = bent(chance, answer)
                    taken.append(takes_likeliest(task, writer, budget, other))
                    self.same(judge_likeliest(task, writer, budget, other), taken[-1])
        self.assertGreater(min(taken.count(True), taken.count(False)), 100)

    def test_examples(self):
        self.same(judge_likeliest(TASK, EVEN, 0, GOOD), True)
        self.same(judge_likeliest(TASK, EVEN, 0, GOOD[:2] + (GOOD[2][1:],)), False)
        self.same(judge_likeliest(TASK, EVEN, 0, GOOD[:2] + (GOOD[2][:1],)), False)

    def test_numbers_that_are_greater_or_less(self):
        # The entry for the place that is no final may be greater, the other one would come above the tapes.
        self.same(judge_likeliest(TASK, EVEN, 0, ((), 1, ((1, 0, 0, 1, 0, 0, 9), (0, 0, 0, 0, 0, 0, 1)))), True)
        self.same(judge_likeliest(TASK, EVEN, 0, ((), 1, ((1, 0, 0, 1, 0, 0, 1), (0, 0, 0, 0, 0, 0, 2)))), False)
        self.same(judge_likeliest(TASK, EVEN, 0, ((), 1, ((1, 0, 0, 1, 0, 0, 0), (0, 0, 0, 0, 0, 0, 1)))), False)

    def test_row_and_tapes(self):
        ceilings = likeliest(TASK, EVEN, 1)[2]
        self.same(judge_likeliest(TASK, EVEN, 1, ((), 4, ceilings)), True)
        for row, tapes in (((), 5), ((), 3), ((2,), 1), ((2,), 4), (None, 0), (None, 4), ((0,), 0), ((0, 1), 0), ([], 4)):
            self.same(judge_likeliest(TASK, EVEN, 1, (row, tapes, ceilings)), False)
        for row, tapes in (((False,), 4), ("", 4), (0, 4), ((), "4"), ((), None), ((), [4]), ((3,), 4), ((-1,), 4)):
            self.same(judge_likeliest(TASK, EVEN, 1, (row, tapes, ceilings)), False)
        for many in (60, 61, 100):
            self.same(judge_likeliest(TASK, EVEN, 1, ((0,) * many, 1, ceilings)), False)
        nothing = likeliest(TASK, ENDLESS, 1)[2]
        self.same(judge_likeliest(TASK, ENDLESS, 1, (None, 0, nothing)), True)
        for row, tapes in ((None, False), (None, 1), ((), 0), ((2,), 0)):
            self.same(judge_likeliest(TASK, ENDLESS, 1, (row, tapes, nothing)), False)

    def test_true_is_not_one(self):
        self.same(judge_likeliest(TASK, EVEN, 0, ((), True, GOOD[2])), False)
        for entry in ((1, 0, 0, 1, 0, 0, True), (True, 0, 0, 1, 0, 0, 1), (1, False, 0, 1, 0, 0, 1), (1, 0, 0, 1, 0, False, 1)):
            self.same(judge_likeliest(TASK, EVEN, 0, ((), 1, (entry, GOOD[2][1]))), False)

    def test_entries_that_are_none(self):
        for entry in ODD + (0, "", (), DEEP, (0,) * 6, (0,) * 8, (2, 0, 0, 1, 0, 0, 1), (1, 1, 0, 1, 0, 0, 1)):
            self.same(judge_likeliest(TASK, EVEN, 0, ((), 1, GOOD[2] + (entry,))), False)
        more = ((0, 0, 1, 0, 0, 0, 1), (0, 0, 0, 2, 0, 0, 1), (0, 0, 0, 0, 1, 0, 1), (0, 0, 0, 0, 0, 1, 1), (0, 0, 0, 1, 0, 0, -1))
        for entry in more + ([1, 0, 0, 0, 0, 0, 1], ("1", 0, 0, 0, 0, 0, 1), ((1,), 0, 0, 0, 0, 0, 1)):
            self.same(judge_likeliest(TASK, EVEN, 0, ((), 1, GOOD[2] + (entry,))), False)
        # Alike in their first six, with the same number or another one; and entries without runs are let in.
        for number in (1, 2):
            self.same(judge_likeliest(TASK, EVEN, 0, ((), 1, GOOD[2] + ((1, 0, 0, 1, 0, 0, number),))), False)
        self.same(judge_likeliest(TASK, EVEN, 0, ((), 1, GOOD[2] + ((1, 0, 0, 0, 0, 0, 0),))), True)

    def test_runs_through_numbers_of_0_count(self):
        # No token holds b, so that the second name has no way; but the entry for it makes a run for the first one.
        task = ((("s", "t"), 0, ((0, (1, "a")), (1, ("b",)))), ("a",), (1, (0,), ((0,),)), "", "behind")
        writer = (2, ((1, 1),), ((0,),))
        inner, outer = (0, 0, 1, 0, 0, 0, 0), (0, 0, 0, 0, 0, 1, 0)
        for ceilings, taken in (((), True), ((inner,), False), ((outer,), True), ((inner, outer), True)):
            self.same(judge_likeliest(task, writer, 1, (None, 0, ceilings)), taken)
        # With more tokens than the budget a run need not be covered.
        self.same(judge_likeliest(task, writer, 0, (None, 0, (inner,))), True)

    def test_useless_rules_count(self):
        task = (ODD_ONES,) + TASK[1:]
        answer = likeliest(task, EVEN, 1)
        self.same(judge_likeliest(task, EVEN, 1, answer), True)
        useless = [entry for entry in answer[2] if entry[2] == 3]
        self.assertTrue(useless)
        for entry in useless:
            rest = tuple(other for other in answer[2] if other != entry)
            self.same(judge_likeliest(task, EVEN, 1, answer[:2] + (rest,)), False)

    def test_any_value_is_let_in(self):
        for value in ODD + (0, 1, "", (), (0,), ((), 1), GOOD + (0,), list(GOOD), DEEP, ((), 1, list(GOOD[2])), ((), 1, None)):
            self.same(judge_likeliest(TASK, EVEN, 0, value), False)
        self.same(judge_likeliest(TASK, EVEN, 0, ((), 1, GOOD[2] + ((1, 0, 0, 0, 0, 0, 10**90),))), True)

    def test_errors(self):
        self.refuses_all("NotUsable('budget')", judge_likeliest, (TASK, EVEN), BAD_SHORTS, (None,))
