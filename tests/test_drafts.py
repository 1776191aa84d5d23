"""[102], [105]: drafted runs."""

import random

from stillends.couples import couple
from stillends.drafts import Drafted
from stillends.stepweights import row_pairs, step_weights
from stillends.tasks import is_good
from stillends.writers import state_behind
from tests.chances import DOUBLE, LOST_TASKS, REGULAR, rich_writer, unlooped_grammar
from tests.helpers import BAD_SHORTS, CUTS, DEEP, EVEN, FREE, FREE2, NEST, ODD, TASK, Case
from tests.plainly import some_pairs
from tests.test_meanlengths import ENDLESS, SHORT
from tests.test_trees import RING

NO_NUMBERS = ODD + ("", "0", (), (0,), DEEP)


class DraftedTest(Case):
    def test_by_couples(self):
        chance = random.Random(102)
        long = 0
        for _ in range(250):
            task, writer, budget, pairs = some_pairs(chance, unlooped_grammar, 3)
            draft = rich_writer(chance, len(task[1]))
            if not pairs:
                self.refuses("NoTape", Drafted, task, writer, budget, draft)
                continue
            run, row = Drafted(task, writer, budget, draft), ()
            while not run.ended():
                target = step_weights(task, writer, budget, row)
                drafted = draft[1][state_behind(task[1], draft, row)]
                self.same((run.row(), run.total()), (row, sum(target) * draft[0]))
                self.assertGreater(run.total(), 0)
                number = chance.randrange(run.total())
                expected = tuple(-1 if k == len(task[1]) else k for k in couple(target, drafted, number))
                self.same(run.propose(number), expected)
                row += () if expected[1] == -1 else (expected[1],)
            self.same((run.row(), run.ended(), run.total(), is_good(task, row)), (row, True, 0, True))
            self.assertGreater(row_pairs(task, writer, budget, row), 0)
            long += len(row) > 1
        self.assertGreater(long, 5)

    def test_outcomes_have_their_shares(self):
        # At each row so many of all numbers have an outcome as good pairs go on with it, times the total of the draft.
        chance = random.Random(1021)
        made = 0
        while made < 60:
            task, writer, budget, pairs = some_pairs(chance, unlooped_grammar, 2)
            draft = rich_writer(chance, len(task[1]))
            numbers = []
            run = Drafted(task, writer, budget, draft) if pairs else None
            while run and not run.ended() and run.total() < 200:
                row = run.row()
                told = [again(task, writer, budget, draft, numbers).propose(number) for number in range(run.total())]
                target = step_weights(task, writer, budget, row)
                drafted = draft[1][state_behind(task[1], draft, row)]
                for k, choice in enumerate(list(range(len(task[1]))) + [-1]):
                    self.same(sum(outcome == choice for _, outcome in told), target[k] * draft[0])
                    self.same(sum(proposal == choice for proposal, _ in told), drafted[k] * sum(target))
                numbers.append(chance.randrange(run.total()))
                run.propose(numbers[-1])
                made += 1

    def test_example(self):
        run = Drafted(TASK, EVEN, 1, EVEN)
        self.same((run.total(), run.propose(12), run.row(), run.total()), (20, (2, 2), (2,), 4))
        self.same((run.propose(0), run.ended(), run.total()), ((0, -1), True, 0))

    def test_after_the_end(self):
        run = Drafted(TASK, EVEN, 0, EVEN)
        self.same((run.propose(3), run.row(), run.ended(), run.total()), ((-1, -1), (), True, 0))
        for number in NO_NUMBERS + (0, 1):
            self.refuses("Ended", run.propose, number)
        self.same((run.row(), run.ended(), run.total()), ((), True, 0))

    def test_numbers(self):
        run = Drafted(TASK, EVEN, 1, EVEN)
        for number in NO_NUMBERS + (20, 21, 10**59):
            self.refuses("NotUsable('number')", run.propose, number)
            self.same((run.row(), run.ended(), run.total()), ((), False, 20))
        self.same(run.propose(number=19), (-1, -1))

    def test_objects_are_apart(self):
        one, two = Drafted(TASK, EVEN, 2, EVEN), Drafted(TASK, EVEN, 2, EVEN)
        before = two.total()
        while not one.ended():
            one.propose(one.total() // 3)
        self.same((two.row(), two.ended(), two.total()), ((), False, before))

    def test_long_rows_and_big_numbers(self):
        million = (10**6, ((3, 10**6 - 4, 1), (10**6 - 9, 2, 7)), ((0, 1), (1, 0)))
        run = Drafted((REGULAR, ("a", "b"), FREE2, "ab" * 100, "behind"), million, 60, million)
        while not run.ended():
            run.propose(run.total() // 2)
        self.assertGreater(len(run.row()), 50)
        run = Drafted((NEST, CUTS, FREE, "a" * 60, "behind"), EVEN, 60, SHORT)
        while not run.ended():
            run.propose(0)
        self.same(run.row(), (1,) * 60)

    def test_making_one(self):
        self.refuses_all("NotUsable('budget')", Drafted, (TASK, EVEN), BAD_SHORTS, (EVEN,))
        self.refuses_all("NotUsable('budget')", Drafted, ((RING,) + TASK[1:], EVEN), BAD_SHORTS, (EVEN,))
        self.refuses("Looped(0)", Drafted, (RING,) + TASK[1:], ENDLESS, 1, EVEN)
        self.refuses("NoTape", Drafted, TASK, ENDLESS, 2, EVEN)
        for task in LOST_TASKS:
            self.refuses("NoTape", Drafted, task, EVEN, 3, EVEN)
        task, writer = (DOUBLE, ("a", "b"), FREE2, "", "behind"), (3, ((1, 1, 1),), ((0, 0),))
        made = Drafted(draft=(1, ((0, 0, 1),), ((0, 0),)), budget=2, writer=writer, task=task)
        self.same(made.row(), ())


def again(task, writer, budget, draft, numbers):
    """A run in which these numbers were proposed with."""
    run = Drafted(task, writer, budget, draft)
    for number in numbers:
        run.propose(number)
    return run
