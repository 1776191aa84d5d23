"""[52]: where a writer may stand."""

import random

from stillends.masks import mask
from stillends.needing import need
from stillends.orders import by_length
from stillends.walks import stood_at
from tests.chances import NO_TEXTS, REGULAR, known_tasks, rich_grammar, rich_task, some_row
from tests.helpers import BAD_ROWS, BAD_SHORTS, CUTS, FREE, FREE2, NEST, TASK, Case
from tests.plainly import rests_of


class StoodAtTest(Case):
    def test_by_rows(self):
        chance = random.Random(52)
        for _ in range(250):
            task = rich_task(chance, rich_grammar(chance), most=3)
            row = some_row(chance, task, 2)
            left = chance.randint(0, 4)
            rests = rests_of(task, row, left)
            found = {task[1][rest[0]][:k] for rest in rests if rest for k in range(len(task[1][rest[0]]))}
            self.same(stood_at(task, row, left), tuple(by_length(found | ({""} if rests else set()))))

    def test_none_exactly_if_nothing_ends_in_time(self):
        for task in known_tasks():
            for row in ((), (0,), (1,)):
                for left in (0, 1, 2, 60):
                    number = need(task, row)
                    self.same(stood_at(task, row, left) == (), number is None or number > left)

    def test_example(self):
        self.same([stood_at(TASK, (0,), left) for left in (2, 1, 0)], [("", "a"), ("",), ()])

    def test_edges(self):
        self.same(stood_at(TASK, (), 0), ("",))
        self.same(stood_at((NO_TEXTS,) + TASK[1:], (), 60), ())
        tokens = ("b", "abba", "abb", "aab")
        task = (REGULAR, tokens, (1, (0,), ((0,) * 4,)), "", "behind")
        self.same(stood_at(task, (0,) * 60, 60), ("", "a", "aa", "ab", "abb"))
        self.same(stood_at(task, (0,) * 60, 0), ("",))
        self.same(mask(task, (), 0), ((), True))
        self.same(stood_at((NEST, CUTS, FREE, "ab", "healed"), (), 60), ("", "a"))
        self.same(stood_at((NEST, ("aa", "b"), FREE2, "a", "healed"), (), 60), ("", "a"))

    def test_refuses(self):
        self.refuses_all("NotUsable('row')", stood_at, (TASK,), BAD_ROWS, (2,))
        self.refuses_all("NotUsable('row')", stood_at, (TASK,), BAD_ROWS, (-1,))
        self.refuses_all("NotUsable('left')", stood_at, (TASK, ()), BAD_SHORTS)
