"""[50]: all good rows of a text."""

import random

from stillends.orders import by_length
from stillends.respells import rows_of
from stillends.tasks import letters_read
from tests.chances import DYCK, NO_TEXTS, REGULAR, known_tasks, rich_grammar, rich_task
from tests.helpers import BAD_TEXTS, CUTS, FREE, FREE2, NEST, TASK, Case, texts_over
from tests.plainly import rests_of


class RowsOfTest(Case):
    def test_by_rows(self):
        chance = random.Random(50)
        many = 0
        for task in [rich_task(chance, rich_grammar(chance), most=4) for _ in range(250)] + known_tasks((NEST, DYCK)):
            good = rests_of(task, (), 4)
            for text in texts_over("ab", 4):
                expected = tuple(row for row in good if letters_read(task, row) == text)
                self.same(rows_of(task, text), tuple(by_length(expected)))
                many += len(expected) > 1
        self.assertGreater(many, 30)

    def test_example(self):
        self.same([rows_of(TASK, text) for text in ("ab", "a", "")], [((2,), (0, 1)), (), ((),)])

    def test_edges(self):
        self.same(rows_of((NO_TEXTS,) + TASK[1:], ""), ())
        self.same(rows_of((NEST, CUTS, (1, (), ((0, 0, 0),)), "", "behind"), ""), ())
        self.same(rows_of((NEST, CUTS, FREE, "ab", "behind"), "ab"), ((),))
        self.same(rows_of((NEST, CUTS, FREE, "ab", "healed"), "ab"), ((2,), (0, 1)))
        self.same(rows_of((NEST, CUTS, FREE, "aa", "behind"), "ab"), ())
        self.same(rows_of((NEST, CUTS, FREE, "aa", "healed"), "ab"), ())
        self.same(rows_of((NEST, CUTS, FREE, "aab", "behind"), "aabb"), ((1,),))
        self.same(rows_of((NEST, CUTS, FREE, "aab", "healed"), "aabb"), ((0, 2, 1), (0, 0, 1, 1)))
        self.same(rows_of((NEST, CUTS, FREE, "aab", "behind"), "aa"), ())
        self.same(rows_of(TASK, "zz"), ())

    def test_more_than_sixty_tokens(self):
        self.same(rows_of((NEST, ("a", "b"), FREE2, "", "behind"), "a" * 600 + "b" * 600), ((0,) * 600 + (1,) * 600,))
        rows = rows_of((REGULAR, ("a", "b", "ab"), FREE, "", "healed"), "a" * 1000 + "ab" * 6)
        self.same(len(rows), 64)
        self.same((len(rows[0]), len(rows[-1])), (1006, 1012))
        self.same(rows, tuple(by_length(set(rows))))

    def test_thousands_of_rows(self):
        rows = rows_of((REGULAR, ("a", "aa"), FREE2, "", "behind"), "a" * 17)
        self.same(len(rows), 2584)
        self.same(rows, tuple(by_length(set(rows))))
        # The book takes rows with at most two tokens of two letters.
        book = (3, (0, 1, 2), ((0, 1), (1, 2), (2, -1)))
        rows = rows_of((REGULAR, ("a", "aa"), book, "a" * 300, "behind"), "a" * 380)
        self.same(len(rows), 1 + 79 + 78 * 77 // 2)

    def test_refuses(self):
        self.refuses_all("NotUsable('text')", rows_of, (TASK,), BAD_TEXTS)
        self.refuses_all("NotUsable('text')", rows_of, ((NO_TEXTS,) + TASK[1:],), BAD_TEXTS)
