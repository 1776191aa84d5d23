"""[53], [54], [56]: plain runs."""

import random

from stillends.endings import ending
from stillends.errors import NotLet
from stillends.masks import mask
from stillends.needing import need
from stillends.plainruns import PlainRun
from stillends.tasks import is_good, letters_read
from stillends.trees import is_of_grammar
from stillends.treetexts import tree_text
from stillends.walks import stood_at
from tests.chances import DOUBLE, LEFT, LISTS, LOST_TASKS, NO_TEXTS, REGULAR, known_tasks, rich_grammar, rich_task
from tests.helpers import BAD_SHORTS, CUTS, DEEP, FREE, FREE2, NEST, TASK, Case
from tests.plainly import rests_of
from tests.test_trees import RING, trees_of

NO_CHOICES = (None, True, False, -2, 3, 10**59, -(10**59), "", "0", "END", (), (0,), [], [0], DEEP)


class PlainRunTest(Case):
    def check(self, run, task, budget, row):
        """What the methods tell ahead of the end."""
        left = budget - len(row)
        letters = letters_read(task, row)
        self.same(run.row(), row)
        self.same(run.text(), task[3] if task[4] == "healed" and len(letters) < len(task[3]) else letters)
        self.same((run.left(), run.ended(), run.tree()), (left, False, None))
        self.same(run.need(), need(task, row))
        self.assertTrue(run.need() <= left)
        self.same(run.choices(), mask(task, row, left))
        self.same(run.looked(), stood_at(task, row, left))

    def check_end(self, run, task, budget, row):
        """What the methods tell behind the end."""
        self.assertTrue(is_good(task, row))
        self.same((run.row(), run.left(), run.ended()), (row, budget - len(row), True))
        self.same(run.text(), letters_read(task, row))
        self.same((run.need(), run.choices(), run.looked()), (0, ((), False), ()))
        tree = run.tree()
        self.assertTrue(is_of_grammar(task[0], tree))
        self.same(tree_text(task[0], tree), run.text())
        for choice in NO_CHOICES + (0, -1):
            self.refuses("Ended", run.write, choice)
        self.same((run.row(), run.ended(), run.tree()), (row, True, tree))

    def test_step_by_step(self):
        chance = random.Random(54)
        ends = 0
        tasks = [rich_task(chance, rich_grammar(chance)) for _ in range(400)] + known_tasks()
        for task in tasks:
            budget = chance.randint(0, 6)
            least = need(task, ())
            if least is None or least > budget:
                self.refuses("NoEnding", PlainRun, task, budget)
                continue
            run = PlainRun(task, budget)
            row = ()
            while not run.ended():
                self.check(run, task, budget, row)
                fitting, may_end = run.choices()
                for choice in NO_CHOICES + tuple(range(len(task[1]))):
                    if isinstance(choice, bool) or choice not in fitting:
                        self.refuses(f"NotLet({choice!r})", run.write, choice)
                if not may_end:
                    self.refuses("NotLet(-1)", run.write, -1)
                choice = chance.choice(fitting + ((-1,) if may_end else ()))
                self.same(run.write(choice), None)
                row = row + ((choice,) if choice >= 0 else ())
            self.check_end(run, task, budget, row)
            ends += 1
        self.assertGreater(ends, 150)

    def test_each_good_row_can_be_written(self):
        for task in known_tasks():
            for row in rests_of(task, (), 3):
                run = PlainRun(task, 3)
                for choice in row + (-1,):
                    run.write(choice)
                self.check_end(run, task, 3, row)

    def test_tree_has_the_fewest_rules(self):
        chance = random.Random(541)
        for _ in range(250):
            task = rich_task(chance, rich_grammar(chance))
            for row in rests_of(task, (), 2)[:3]:
                run = PlainRun(task, 2)
                for choice in row + (-1,):
                    run.write(choice)
                if len(run.tree()) <= 6:
                    trees = trees_of(task[0], task[0][1], len(run.tree()))
                    sizes = [len(tree) for tree in trees if tree_text(task[0], tree) == run.text()]
                    self.same(len(run.tree()), min(sizes))

    def test_example(self):
        run = PlainRun(TASK, 2)
        run.write(0)
        self.same((run.choices(), run.looked()), (((1,), False), ("",)))
        self.refuses("NotLet(True)", run.write, True)
        run.write(1)
        run.write(-1)
        self.same((run.text(), run.tree(), run.choices()), ("ab", (1, 0), ((), False)))

    def test_text_in_healed(self):
        run = PlainRun((NEST, CUTS, FREE, "aab", "healed"), 4)
        texts = []
        for choice in (0, 0, 1, 1):
            texts.append(run.text())
            run.write(choice)
        self.same(texts + [run.text()], ["aab", "aab", "aab", "aab", "aabb"])
        run = PlainRun((NEST, CUTS, FREE, "aab", "behind"), 4)
        self.same(run.text(), "aab")
        run.write(1)
        self.same(run.text(), "aabb")

    def test_not_let_keeps_the_very_value(self):
        run = PlainRun(TASK, 2)
        for value in ([0], "abc" * 7, (1, 2), 10**59):
            with self.assertRaises(NotLet) as caught:
                run.write(value)
            self.assertIs(caught.exception.choice, value)
        self.same(run.row(), ())

    def test_runs_do_not_change_one_another(self):
        first, second = PlainRun(TASK, 4), PlainRun(TASK, 4)
        first.write(0)
        self.same((first.row(), second.row(), second.need()), ((0,), (), 0))
        second.write(2)
        second.write(-1)
        self.same((first.ended(), second.ended()), (False, True))
        first.write(0)
        self.same((first.row(), first.choices()), ((0, 0), ((1,), False)))

    def test_no_ending(self):
        self.refuses("NoEnding", PlainRun, (NEST, CUTS, FREE, "aaa", "behind"), 2)
        self.same(PlainRun((NEST, CUTS, FREE, "aaa", "behind"), 3).need(), 3)
        for task in LOST_TASKS:
            self.refuses("NoEnding", PlainRun, task, 60)

    def test_budgets_of_none_and_of_sixty(self):
        run = PlainRun(TASK, 0)
        self.same((run.choices(), run.looked(), run.left()), (((), True), ("",), 0))
        self.refuses("NotLet(2)", run.write, 2)
        run.write(-1)
        self.same(run.tree(), (0,))
        run = PlainRun(TASK, 60)
        for choice in (0,) * 30 + (1,) * 30:
            run.write(choice)
        self.same((run.left(), run.choices(), run.looked()), (0, ((), True), ("",)))
        run.write(-1)
        self.same(run.tree(), (1,) * 30 + (0,))

    def test_looped_names(self):
        run = PlainRun((RING,) + TASK[1:], 3)
        for choice in (0, 0, -1):
            run.write(choice)
        self.same(sorted(run.tree()), [1, 1, 2])

    def test_up_to_the_limits(self):
        tokens = ("a" * 12, "b")
        for grammar in (REGULAR, LEFT):
            run = PlainRun((grammar, tokens, FREE2, "b" * 400, "behind"), 60)
            for _ in range(60):
                run.write(0)
            run.write(-1)
            self.same((len(run.text()), len(run.tree())), (1120, 1121))
        run = PlainRun((DOUBLE, ("a", "b"), FREE2, "ab" * 15, "healed"), 60)
        while not run.ended():
            fitting, may_end = run.choices()
            run.write(-1 if may_end else fitting[0])
        self.same((len(run.row()), len(run.tree())), (30, 59))
        run = PlainRun((LISTS, tuple("abcd"), (1, (0,), ((0,) * 4,)), "b" * 20, "behind"), 41)
        self.same((run.need(), run.choices()), (20, ((0, 1, 2), False)))

    def test_too_much(self):
        names = tuple(f"n{k}" for k in range(60))
        rules = tuple((k, (k + 1,) * 12 if k < 59 else ()) for k in range(60))
        run = PlainRun(((names, 0, rules),) + TASK[1:], 2)
        run.write(-1)
        for _ in range(2):
            self.refuses("TooMuch('tree')", run.tree)
        self.same((run.ended(), run.text()), (True, ""))
        # Of 4,000 rules, and of 4,001.
        for names, rules, begun in (((93, 6, 6), 4000, "a" * 93), ((100, 3, 12), 4001, "a" * 100)):
            letters, times, below = names
            grammar = (("s", "t", "u"), 0, ((0, ()), (0, ("a",) + (1,) * times + (0,)), (1, (2,) * below), (2, ())))
            run = PlainRun((grammar, ("a",), (1, (0,), ((0,),)), begun, "behind"), 0)
            run.write(-1)
            if rules == 4000:
                self.same(len(run.tree()), 4000)
                self.same(len(run.tree()), len(ending((grammar, ("a",), (1, (0,), ((0,),)), begun, "behind"), ())[1]))
            else:
                self.refuses("TooMuch('tree')", run.tree)

    def test_refuses(self):
        self.refuses_all("NotUsable('budget')", PlainRun, (TASK,), BAD_SHORTS)
        self.refuses_all("NotUsable('budget')", PlainRun, ((NO_TEXTS,) + TASK[1:],), BAD_SHORTS)

    def test_by_name(self):
        run = PlainRun(budget=1, task=TASK)
        run.write(choice=2)
        self.same(run.row(), (2,))
