"""[69], (G6): needs by stands."""

import random

from stillends.needing import need, needs
from stillends.quickneeds import quick_need, quick_needs
from tests.chances import DYCK, FORK, LISTS, NO_TEXTS, REGULAR, known_tasks, one_way_grammar, rich_task, some_row
from tests.helpers import BAD_ROWS, CUTS, FREE, FREE2, NEST, TASK, Case
from tests.plainly import need_by_ways
from tests.test_trees import RING


class QuickNeedTest(Case):
    def test_as_plain_ones(self):
        chance = random.Random(69)
        met = set()
        tasks = [rich_task(chance, one_way_grammar(chance)) for _ in range(500)]
        for task in tasks + known_tasks((NEST, FORK, DYCK, REGULAR, LISTS, NO_TEXTS)):
            row = some_row(chance, task)
            expected = need_by_ways(task, row)
            self.same((quick_need(task, row), need(task, row)), (expected, expected))
            behind = tuple(need_by_ways(task, row + (token,)) for token in range(len(task[1])))
            self.same((quick_needs(task, row), needs(task, row)), (behind, behind))
            met |= set(behind)
        self.assertTrue({None, 0, 1, 2, 3} <= met)

    def test_edges(self):
        self.same((quick_need(TASK, (0,)), quick_needs(TASK, ())), (1, (1, None, 0)))
        self.same((quick_need((NO_TEXTS,) + TASK[1:], ()), quick_needs((NO_TEXTS,) + TASK[1:], ())), (None, (None,) * 3))
        self.same(quick_needs((NEST, CUTS, (1, (), ((0, 0, 0),)), "", "behind"), ()), (None,) * 3)
        self.same(quick_needs((NEST, CUTS, FREE, "b", "behind"), ()), (None,) * 3)
        self.same(quick_need((NEST, CUTS, FREE, "b", "behind"), ()), None)
        self.same(quick_need((NEST, CUTS, FREE, "a", "healed"), (1,)), None)
        self.same(quick_needs((NEST, CUTS, FREE, "a", "healed"), ()), (1, None, 0))

    def test_sixty_tokens_and_more(self):
        row = (0,) * 60
        self.same((quick_need(TASK, row), quick_needs(TASK, row)), (60, (61, 59, 60)))
        task = (NEST, ("a" * 12, "b" * 11, "b" * 12), FREE, "a" * 400, "behind")
        self.same(quick_needs(task, row), (95, 93, 93))
        names = tuple(f"n{k}" for k in range(60))
        rules = tuple((k, (k + 1,) * 12 if k < 59 else ("a",)) for k in range(60))
        self.same(quick_need(((names, 0, rules), ("a", "aa"), FREE2, "", "behind"), (0, 1)), 12**59 // 2 - 1)

    def test_refuses(self):
        self.refuses_all("NotUsable('row')", quick_need, (TASK,), BAD_ROWS)
        self.refuses_all("NotUsable('row')", quick_needs, ((RING,) + TASK[1:],), BAD_ROWS)
        self.refuses("NotOneWay(0, 0, 1, 'a')", quick_need, (RING,) + TASK[1:], ())
        self.refuses("NotOneWay(0, 0, 1, 'a')", quick_needs, (RING,) + TASK[1:], ())
