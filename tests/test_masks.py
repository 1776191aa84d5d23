"""[5], [48], [56], (G4): masks, and where they settle."""

import random

from stillends.masks import mask, settled
from stillends.needing import need, needs
from tests.chances import NO_TEXTS, REGULAR, known_tasks, rich_grammar, rich_task, some_row
from tests.helpers import BAD_ROWS, BAD_SHORTS, CUTS, FREE, FREE2, LONE, NEST, TASK, Case
from tests.plainly import mask_by_ways, rests_of
from tests.test_trees import RING


class MaskTest(Case):
    def test_by_ways(self):
        chance = random.Random(48)
        letting = 0
        for _ in range(600):
            task = rich_task(chance, rich_grammar(chance))
            row = some_row(chance, task)
            left = chance.randint(0, 5)
            expected = mask_by_ways(task, row, left)
            self.same(mask(task, row, left), expected)
            letting += bool(expected[0])
        self.assertGreater(letting, 80)

    def test_by_rows(self):
        """Whoever takes a choice of the mask can still end in time; whoever takes another one cannot."""
        chance = random.Random(481)
        for _ in range(200):
            task = rich_task(chance, rich_grammar(chance), most=3)
            row = some_row(chance, task, 2)
            left = chance.randint(0, 4)
            rests = rests_of(task, row, left)
            self.same(mask(task, row, left), (tuple(sorted({rest[0] for rest in rests if rest})), () in rests))

    def test_more_left_lets_more(self):
        for task in known_tasks():
            before = ((), False)
            for left in range(8):
                found = mask(task, (0,), left)
                self.assertTrue(set(before[0]) <= set(found[0]))
                self.same(found[1], need(task, (0,)) == 0)
                before = found

    def test_example(self):
        self.same((mask(TASK, (0,), 2), mask(TASK, (0,), 0)), (((1, 2), False), ((), False)))
        self.same((mask(TASK, (), 2), mask(TASK, (), 1), mask(TASK, (), 0)), (((0, 2), True), ((2,), True), ((), True)))
        self.same(mask((NEST, LONE, FREE2, "", "behind"), (0,), 60), ((), False))

    def test_sixty_and_sixty_one(self):
        row = (0,) * 60
        self.same(mask(TASK, row, 60), ((1,), False))
        self.same(mask(TASK, (0,) * 59, 60), ((1, 2), False))
        self.same(mask(TASK, (0,) * 30 + (1,) * 30, 60), ((), True))
        self.same(mask((NEST, CUTS, FREE, "a" * 60, "healed"), (), 60), ((), False))
        self.same(mask((NEST, CUTS, FREE, "a" * 30, "healed"), (), 60), ((0,), False))

    def test_lost_rows(self):
        for task in ((NO_TEXTS,) + TASK[1:], (NEST, CUTS, (1, (), ((0, 0, 0),)), "", "behind")):
            self.same((mask(task, (), 60), settled(task, ())), (((), False), 0))
        self.same((mask(TASK, (1,), 60), settled(TASK, (1,))), (((), False), 0))
        self.same(mask((NEST, CUTS, FREE, "ab", "healed"), (1,), 60), ((), False))

    def test_looped_names(self):
        self.same(mask((RING,) + TASK[1:], (), 1), ((0,), True))

    def test_refuses(self):
        self.refuses_all("NotUsable('row')", mask, (TASK,), BAD_ROWS, (2,))
        self.refuses_all("NotUsable('row')", mask, (TASK,), BAD_ROWS, (None,))
        self.refuses_all("NotUsable('left')", mask, (TASK, ()), BAD_SHORTS)


class SettledTest(Case):
    def test_settles_there_and_not_sooner(self):
        chance = random.Random(56)
        tasks = [rich_task(chance, rich_grammar(chance)) for _ in range(200)] + known_tasks()
        for task in tasks:
            row = some_row(chance, task, 2)
            numbers = [number for number in needs(task, row) if number is not None]
            found = settled(task, row)
            self.same(found, 1 + max(numbers) if numbers else 0)
            if found < 60:
                last = mask(task, row, found)
                for left in (found, found + 1, 60):
                    self.same(mask(task, row, left), last)
                if found > 0:
                    self.assertNotEqual(mask(task, row, found - 1), last)

    def test_example(self):
        self.same(settled(TASK, (0,)), 3)
        self.same(settled(TASK, ()), 2)
        self.same(settled(TASK, (0,) * 60), 62)
        self.same(settled((REGULAR, ("a",), (1, (0,), ((0,),)), "", "behind"), ()), 1)

    def test_refuses(self):
        self.refuses_all("NotUsable('row')", settled, (TASK,), BAD_ROWS)
