"""[70], [76], (G7): what letters are sure."""

import random

from stillends.masks import mask
from stillends.suretexts import sure_text
from stillends.tasks import letters_read
from tests.chances import (
    DYCK, FORK, LISTS, LOST_TASKS, REGULAR, beginning_of_good_row, known_tasks, one_way_grammar, rich_task, some_row,
)
from tests.helpers import BAD_ROWS, BAD_SHORTS, CUTS, FREE, FREE2, NEST, TASK, Case
from tests.plainly import common_beginning, need_by_ways, rests_of
from tests.test_trees import RING


class SureTextTest(Case):
    def test_by_all_endings(self):
        chance = random.Random(70)
        sure = 0
        tasks = [rich_task(chance, one_way_grammar(chance), most=3) for _ in range(400)]
        for task in tasks + known_tasks((NEST, FORK, DYCK, LISTS)):
            row = beginning_of_good_row(chance, task, 4)
            left = chance.randint(0, 4)
            rests = rests_of(task, row, left)
            if not rests:
                self.refuses("NoEnding", sure_text, task, row, left)
                continue
            read = letters_read(task, row)
            expected = common_beginning([letters_read(task, row + rest) for rest in rests])[len(read) :]
            self.same(sure_text(task, row, left), expected)
            sure += bool(expected)
        self.assertGreater(sure, 30)

    def test_more_left_is_less_sure(self):
        """(G7), and [76]: what is sure behind a token begins with what was sure ahead of it."""
        chance = random.Random(701)
        tasks = [rich_task(chance, one_way_grammar(chance), most=3) for _ in range(150)]
        for task in tasks + known_tasks((NEST, FORK, DYCK, LISTS)):
            row = some_row(chance, task, 1)
            least = need_by_ways(task, row)
            if least is None:
                continue
            before = sure_text(task, row, least)
            for left in range(least, least + 4):
                found = sure_text(task, row, left)
                self.assertTrue(before.startswith(found))
                before = found
                for token in mask(task, row, left)[0]:
                    behind = task[1][token] + sure_text(task, row + (token,), left - 1)
                    self.assertTrue(behind.startswith(found))

    def test_example(self):
        self.same((sure_text(TASK, (0,), 1), sure_text(TASK, (0,), 2)), ("b", ""))
        self.same(sure_text((NEST, CUTS, FREE, "a", "healed"), (), 1), "ab")

    def test_edges(self):
        self.same(sure_text(TASK, (), 0), "")
        self.same(sure_text(TASK, (0,) * 60, 60), "b" * 60)
        self.same(sure_text((NEST, ("a" * 12, "b" * 12), FREE2, "", "behind"), (0,) * 59, 60), "b" * 708)
        self.same(sure_text((NEST, ("a" * 12, "b" * 12), FREE2, "", "behind"), (0,) * 60, 60), "b" * 720)
        # A token that is begun is sure up to where others part from it.
        grammar = (("s",), 0, ((0, ("a", "b", "c")), (0, ("b",))))
        task = (grammar, ("abc", "ab", "c", "b"), (1, (0,), ((0,) * 4,)), "a", "behind")
        self.same(sure_text(task[:3] + ("a", "healed"), (), 2), "abc")
        self.same(sure_text(task[:3] + ("", "healed"), (), 2), "")
        for task in LOST_TASKS:
            self.refuses("NoEnding", sure_text, task, (), 60)
        self.refuses("NoEnding", sure_text, TASK, (0, 0), 1)
        self.refuses("NoEnding", sure_text, TASK, (1,), 60)

    def test_the_book_counts(self):
        # Behind a token b the book lets no a, and it takes rows of two or three tokens alone.
        book = (4, (2, 3), ((1, 1), (2, 2), (3, 3), (-1, -1)))
        self.same(sure_text((REGULAR, ("a", "b"), book, "", "behind"), (0,), 60), "")
        book = (3, (2,), ((1, -1), (-1, 2), (-1, -1)))
        self.same(sure_text((REGULAR, ("a", "b"), book, "", "behind"), (), 60), "ab")

    def test_refuses(self):
        self.refuses_all("NotUsable('row')", sure_text, (TASK,), BAD_ROWS, (None,))
        self.refuses_all("NotUsable('left')", sure_text, (TASK, ()), BAD_SHORTS)
        self.refuses_all("NotUsable('left')", sure_text, ((RING,) + TASK[1:], ()), BAD_SHORTS)
        self.refuses("NotOneWay(0, 0, 1, 'a')", sure_text, (RING,) + TASK[1:], (1,), 60)
