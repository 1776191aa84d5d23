"""[72], [73], [74], [76], (G6), (G7): guides and live runs, beside plain ones."""

import random

from stillends.errors import NotLet
from stillends.guides import Guide
from stillends.liveruns import Run
from stillends.masks import mask
from stillends.needing import need
from stillends.plainruns import PlainRun
from stillends.readers import Reader
from stillends.surerules import sure_rules
from stillends.suretexts import sure_text
from stillends.tasks import letters_read
from stillends.walks import stood_at
from tests.chances import (
    DYCK, FORK, LEFT, LISTS, LOST_TASKS, NO_TEXTS, REGULAR, known_tasks, one_way_grammar, rich_task,
)
from tests.helpers import BAD_SHORTS, CUTS, DEEP, FREE, FREE2, NEST, ODD, TASK, Case
from tests.plainly import Stands, only_tree
from tests.test_plainruns import NO_CHOICES
from tests.test_trees import RING


class GuideTest(Case):
    def test_task(self):
        task = (NEST, CUTS, FREE, "a", "healed")
        guide = Guide(task)
        self.same(guide.task(), task)
        self.same(Guide(task=TASK).task(), TASK)

    def test_run(self):
        guide = Guide(TASK)
        run = guide.run(2)
        self.same((run.choices(), run.looked()), (((0, 2), True), ("", "a")))
        self.assertIs(run.guide(), guide)
        self.assertIsInstance(run, Run)
        self.assertIsNot(guide.run(2), guide.run(2))
        self.same(guide.run(budget=0).choices(), ((), True))

    def test_run_raises_what_making_it_raises(self):
        self.refuses_all("NotUsable('budget')", Guide(TASK).run, (), BAD_SHORTS)
        self.refuses("NoEnding", Guide((NEST, CUTS, FREE, "aaa", "behind")).run, 2)
        self.refuses_all("NotUsable('budget')", Guide((NO_TEXTS,) + TASK[1:]).run, (), BAD_SHORTS)
        self.refuses("NoEnding", Guide((NO_TEXTS,) + TASK[1:]).run, 60)

    def test_not_one_way(self):
        for grammar in (RING, LEFT):
            self.refuses("NotOneWay(0, 0, 1, 'a')", Guide, (grammar,) + TASK[1:])


class MakingTest(Case):
    def test_refuses(self):
        for value in ODD + (0, "", DEEP, TASK, Reader(NEST), PlainRun(TASK, 2), Guide(TASK).run(2), NotLet(3)):
            self.refuses("NotUsable('guide')", Run, value, 2)
            self.refuses("NotUsable('guide')", Run, value, None)
        self.refuses_all("NotUsable('budget')", Run, (Guide(TASK),), BAD_SHORTS)

    def test_no_ending(self):
        for task in LOST_TASKS:
            self.refuses("NoEnding", Run, Guide(task), 60)
        self.refuses("NoEnding", Run, Guide((NEST, CUTS, FREE, "a" * 61, "behind")), 60)
        self.same(Run(guide=Guide((NEST, CUTS, FREE, "a" * 60, "behind")), budget=60).need(), 60)


class RunTest(Case):
    def check(self, run, plain, stands):
        """It tells the same as a plain run, and as the functions tell."""
        task = run.guide().task()
        row = run.row()
        for name in ("row", "text", "left", "ended", "need", "choices", "looked"):
            self.same(getattr(run, name)(), getattr(plain, name)())
        if run.ended():
            tree = only_tree(task[0], letters_read(task, row))
            self.same((run.tree(), run.rules(), run.sure_text(), run.sure_rules()), (tree, tree, "", ()))
            self.same(plain.tree(), tree)
        else:
            self.same(run.tree(), None)
            self.same(run.rules(), stands.behind(letters_read(task, row))[1])
            self.same(run.sure_text(), sure_text(task, row, run.left()))
            self.same(run.sure_rules(), sure_rules(task, row, run.left()))
            self.same(run.choices(), mask(task, row, run.left()))
            self.same(run.looked(), stood_at(task, row, run.left()))

    def tasks(self, chance, many):
        found = [rich_task(chance, one_way_grammar(chance)) for _ in range(many)]
        return found + known_tasks((NEST, FORK, DYCK, LISTS, REGULAR))

    def test_beside_a_plain_run(self):
        chance = random.Random(74)
        ends = 0
        for task in self.tasks(chance, 250):
            budget = chance.randint(0, 6)
            least = need(task, ())
            if least is None or least > budget:
                self.refuses("NoEnding", Guide(task).run, budget)
                continue
            run, plain, stands = Guide(task).run(budget), PlainRun(task, budget), Stands(task[0])
            passed = []
            while not run.ended():
                self.check(run, plain, stands)
                passed.append(run.rules() + run.sure_rules())
                fitting, may_end = run.choices()
                for choice in NO_CHOICES + tuple(range(len(task[1]))):
                    if isinstance(choice, bool) or choice not in fitting:
                        self.refuses(f"NotLet({choice!r})", run.write, choice)
                if not may_end:
                    self.refuses("NotLet(-1)", run.write, -1)
                choice = chance.choice(fitting + ((-1,) if may_end else ()))
                self.same((run.write(choice), plain.write(choice)), (None, None))
            self.check(run, plain, stands)
            for choice in NO_CHOICES + (0, -1):
                self.refuses("Ended", run.write, choice)
            for rules in passed:
                self.same(run.tree()[: len(rules)], rules)
            ends += 1
        self.assertGreater(ends, 100)

    def test_back_and_fork(self):
        """Behind any steps back and forks, a run is as a new one in which its tokens were written."""
        chance = random.Random(741)
        moves = 0
        for task in self.tasks(chance, 150):
            budget = chance.randint(1, 6)
            least = need(task, ())
            if least is None or least > budget:
                continue
            runs = [Guide(task).run(budget)]
            rows = [((), False)]
            for _ in range(10):
                k = chance.randrange(len(runs))
                row, ended = rows[k]
                action = chance.choice(("write", "write", "write", "back", "fork"))
                if action == "write" and not ended:
                    fitting, may_end = runs[k].choices()
                    choice = chance.choice(fitting + ((-1,) if may_end else ()))
                    runs[k].write(choice)
                    rows[k] = (row + ((choice,) if choice >= 0 else ()), choice == -1)
                elif action == "back":
                    cut = chance.randint(0, len(row))
                    self.same(runs[k].back(cut), None)
                    rows[k] = (row[:cut], False)
                elif action == "fork":
                    runs.append(runs[k].fork())
                    self.assertIs(runs[-1].guide(), runs[k].guide())
                    rows.append((row, ended))
                moves += 1
            for run, (row, ended) in zip(runs, rows):
                plain = PlainRun(task, budget)
                for choice in row + ((-1,) if ended else ()):
                    plain.write(choice)
                self.check(run, plain, Stands(task[0]))
        self.assertGreater(moves, 500)

    def test_example(self):
        run = Guide(TASK).run(2)
        run.write(0)
        self.same((run.choices(), run.rules(), run.sure_text(), run.sure_rules()), (((1,), False), (1,), "b", (0,)))
        run = Guide((NEST, CUTS, FREE, "a", "healed")).run(1)
        self.same((run.text(), run.row(), run.rules(), run.choices()), ("a", (), (), ((2,), False)))
        run.write(2)
        run.write(-1)
        self.same((run.ended(), run.rules(), run.tree(), run.sure_rules()), (True, (1, 0), (1, 0), ()))
        run.back(1)
        self.same((run.ended(), run.choices()), (False, ((), True)))

    def test_begun_is_read_at_first(self):
        run = Guide((NEST, CUTS, FREE, "aab", "behind")).run(3)
        self.same((run.text(), run.rules(), run.sure_text(), run.sure_rules()), ("aab", (1, 1, 0), "b", ()))
        run.write(1)
        self.same((run.text(), run.rules(), run.choices()), ("aabb", (1, 1, 0), ((), True)))

    def test_back(self):
        run = Guide(TASK).run(4)
        for choice in (0, 0, 1, 1, -1):
            run.write(choice)
        for value in ODD + (5, 10**59, "1", "", (), (1,), DEEP):
            self.refuses("NotUsable('k')", run.back, value)
        self.same((run.ended(), run.row()), (True, (0, 0, 1, 1)))
        run.back(k=4)
        self.same((run.ended(), run.row(), run.left(), run.choices()), (False, (0, 0, 1, 1), 0, ((), True)))
        run.back(1)
        self.same((run.row(), run.left(), run.need(), run.text()), ((0,), 3, 1, "a"))
        self.refuses("NotUsable('k')", run.back, 2)
        run.back(0)
        self.same((run.row(), run.rules(), run.choices()), ((), (), ((0, 2), True)))
        run.back(0)
        for choice in (2, -1):
            run.write(choice)
        self.same((run.tree(), run.ended()), ((1, 0), True))

    def test_runs_are_apart(self):
        guide = Guide(TASK)
        first, second = guide.run(4), guide.run(4)
        first.write(0)
        third = first.fork()
        first.write(0)
        third.write(1)
        self.same([run.row() for run in (first, second, third)], [(0, 0), (), (0, 1)])
        third.write(-1)
        fourth = third.fork()
        third.back(0)
        self.same([run.ended() for run in (first, second, third, fourth)], [False, False, False, True])
        self.same((fourth.row(), fourth.tree(), third.row(), first.row()), ((0, 1), (1, 0), (), (0, 0)))
        second.write(2)
        self.same((second.choices(), first.choices()), (((), True), ((1,), False)))

    def test_not_let_keeps_the_very_value(self):
        run = Guide(TASK).run(2)
        value = [0]
        with self.assertRaises(NotLet) as caught:
            run.write(choice=value)
        self.assertIs(caught.exception.choice, value)

    def test_sixty_tokens(self):
        run = Guide(TASK).run(60)
        for choice in (0,) * 30 + (1,) * 30:
            run.write(choice)
        self.same((run.left(), run.choices(), run.looked(), run.rules()), (0, ((), True), ("",), (1,) * 30 + (0,)))
        run.write(-1)
        self.same(run.tree(), (1,) * 30 + (0,))
        run.back(20)
        self.same((run.need(), run.choices(), run.looked()), (20, ((0, 1, 2), False), ("", "a")))

    def test_too_much_and_on(self):
        names = tuple(f"n{k}" for k in range(60))
        empty = tuple((k, (k + 1,) * 12 if k < 59 else ()) for k in range(1, 60))
        run = Guide(((names, 0, ((0, ("a", 1, "b")),) + empty),) + TASK[1:]).run(3)
        run.write(0)
        self.same((run.rules(), run.sure_text()), ((0,), "b"))
        self.refuses("TooMuch('tree')", run.sure_rules)
        run.write(1)
        self.refuses("TooMuch('tree')", run.rules)
        self.same((run.choices(), run.sure_rules(), run.sure_text()), (((), True), (), ""))
        run.write(-1)
        for method in (run.rules, run.tree):
            self.refuses("TooMuch('tree')", method)
        self.same((run.text(), run.ended(), run.sure_rules()), ("ab", True, ()))
        run.back(1)
        self.same(run.rules(), (0,))

    def test_four_thousand_rules_and_one_more(self):
        tokens = ("a" * 100, "a")
        run = Guide((REGULAR, tokens, FREE2, "", "behind")).run(60)
        for _ in range(39):
            run.write(0)
        run.write(1)
        self.same((len(run.rules()), len(run.text())), (3901, 3901))
        run.back(39)
        run.write(0)
        self.same(len(run.rules()), 4000)
        run.write(-1)
        self.refuses("TooMuch('tree')", run.rules)
        self.refuses("TooMuch('tree')", run.tree)
        run.back(40)
        run.write(1)
        self.refuses("TooMuch('tree')", run.rules)
        run.back(39)
        run.write(-1)
        self.same(len(run.tree()), 3901)

    def test_up_to_the_limits(self):
        tokens = tuple(f"{a}{b}" for a in "abcdefghijkl" for b in "0123456789")
        rules = tuple((0, (a, 1, 0)) for a in "abcdefghijkl") + ((0, ()),) + tuple((1, (b,)) for b in "0123456789")
        task = ((("s", "t"), 0, rules), tokens, (1, (0,), ((0,) * 120,)), "c7" * 200, "behind")
        run = Guide(task).run(60)
        for k in range(60):
            self.same(run.choices(), (tuple(range(120)), True))
            run.write(2 * k)
        self.same((run.choices(), len(run.text()), len(run.rules())), (((), True), 520, 520))
        run = Guide(task[:3] + ("c7" * 60, "healed")).run(60)
        self.same((run.sure_text(), run.choices()), ("c7" * 60, ((27,), False)))
