"""[71], [76], (G7): what rules are sure."""

import random

from stillends.masks import mask
from stillends.surerules import sure_rules
from stillends.tasks import letters_read
from tests.chances import (
    DYCK, FORK, LISTS, LOST_TASKS, REGULAR, beginning_of_good_row, known_tasks, one_way_grammar, rich_task, some_row,
)
from tests.helpers import BAD_ROWS, BAD_SHORTS, FREE, FREE2, NEST, TASK, Case
from tests.plainly import Stands, common_beginning, need_by_ways, only_tree, rests_of
from tests.test_trees import RING


class SureRulesTest(Case):
    def test_by_all_endings(self):
        chance = random.Random(71)
        sure = 0
        tasks = [rich_task(chance, one_way_grammar(chance), most=3) for _ in range(400)]
        for task in tasks + known_tasks((NEST, FORK, DYCK, LISTS)):
            row = beginning_of_good_row(chance, task, 4)
            left = chance.randint(0, 4)
            rests = rests_of(task, row, left)
            if not rests:
                self.refuses("NoEnding", sure_rules, task, row, left)
                continue
            read = Stands(task[0]).behind(letters_read(task, row))[1]
            trees = [only_tree(task[0], letters_read(task, row + rest)) for rest in rests]
            expected = common_beginning(trees)
            self.same(expected[: len(read)], read)
            self.same(sure_rules(task, row, left), expected[len(read) :])
            sure += len(expected) > len(read)
        self.assertGreater(sure, 60)

    def test_more_left_is_less_sure(self):
        chance = random.Random(711)
        tasks = [rich_task(chance, one_way_grammar(chance), most=3) for _ in range(150)]
        for task in tasks + known_tasks((NEST, FORK, DYCK, LISTS)):
            row = some_row(chance, task, 1)
            least = need_by_ways(task, row)
            if least is None:
                continue
            stands = Stands(task[0])
            read = stands.behind(letters_read(task, row))[1]
            before = sure_rules(task, row, least)
            for left in range(least, least + 4):
                found = sure_rules(task, row, left)
                self.same(before[: len(found)], found)
                before = found
                for token in mask(task, row, left)[0]:
                    other = row + (token,)
                    behind = stands.behind(letters_read(task, other))[1] + sure_rules(task, other, left - 1)
                    self.same(behind[: len(read + found)], read + found)

    def test_example(self):
        self.same([sure_rules(TASK, (0,), 1), sure_rules(TASK, (0,), 2), sure_rules(TASK, (), 0)], [(0,), (), (0,)])

    def test_edges(self):
        self.same(sure_rules(TASK, (0,) * 60, 60), (0,))
        self.same(sure_rules((NEST, ("a" * 12, "b" * 12), FREE2, "a" * 12, "healed"), (), 2), (1,) * 12 + (0,))
        self.same(sure_rules((REGULAR, ("a", "b"), FREE2, "", "behind"), (0, 1), 0), (0,))
        self.same(sure_rules(TASK, (0, 1), 60), ())
        self.same(sure_rules((FORK, ("a", "b", "c"), FREE, "", "behind"), (), 60), (0,))
        for task in LOST_TASKS:
            self.refuses("NoEnding", sure_rules, task, (), 60)

    def test_four_thousand_rules_and_one_more(self):
        def chain(times, below):
            return (("s", "t", "u"), 0, ((0, ()), (0, ("a",) + (1,) * times + (0,)), (1, (2,) * below), (2, ())))

        one = (1, (0,), ((0,),))
        # All that is read in healed is sure: what is begun, in just as many tokens.
        self.same(len(sure_rules((chain(6, 6), ("aaa",), one, "a" * 93, "healed"), (), 31)), 4000)
        self.refuses("TooMuch('tree')", sure_rules, (chain(3, 12), ("aa",), one, "a" * 100, "healed"), (), 50)
        self.same(len(sure_rules((chain(3, 12), ("aa",), one, "a" * 100, "healed"), (0,), 49)), 4001 - 41)
        self.same(sure_rules((chain(3, 12), ("aa",), one, "a" * 100, "behind"), (), 0)[-1], 0)
        names = tuple(f"n{k}" for k in range(60))
        rules = tuple((k, (k + 1,) * 12 if k < 59 else ()) for k in range(60))
        self.refuses("TooMuch('tree')", sure_rules, ((names, 0, rules),) + TASK[1:], (), 3)

    def test_refuses(self):
        self.refuses_all("NotUsable('row')", sure_rules, (TASK,), BAD_ROWS, (None,))
        self.refuses_all("NotUsable('left')", sure_rules, (TASK, ()), BAD_SHORTS)
        self.refuses_all("NotUsable('left')", sure_rules, ((RING,) + TASK[1:], ()), BAD_SHORTS)
        self.refuses("NotOneWay(0, 0, 1, 'a')", sure_rules, (RING,) + TASK[1:], (1,), 60)
