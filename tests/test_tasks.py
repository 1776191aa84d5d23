"""[5], [46]: tasks, good rows, letters read."""

import random

from stillends.books import takes
from stillends.members import in_grammar
from stillends.spellers import place_behind
from stillends.tasks import is_good, letters_read, lets_task
from stillends.tokenlists import row_text
from tests.definitions import texts_by_sets
from tests.helpers import BAD_ROWS, CUTS, DEEP, FREE, LONE, NEST, ODD, PART, TASK, Case, rows_upto
from tests.test_spellers import BOOK, some_case
from tests.test_usefulness import some_grammar

MODES = ("behind", "healed")


class LetsTaskTest(Case):
    def test_tasks(self):
        self.same(lets_task(TASK), 3)
        self.same(lets_task((NEST, LONE, (1, (), ((-1, -1),)), "ab", "healed")), 2)
        self.same(lets_task(((("s",), 0, ()), ("a",), (1, (0,), ((0,),)), "", "healed")), 1)

    def test_limits_do_not_count(self):
        tokens = tuple("a" * k for k in range(1, 200))
        self.same(lets_task((NEST, tokens, (1, (), ((0,) * 199,)), "a" * 5000, "behind")), 199)

    def test_shape(self):
        for thing in (None, True, 0, "", "abcde", (), TASK[:4], TASK + (0,), list(TASK), (TASK,), DEEP):
            self.refuses("InvalidPaper('shape', -1)", lets_task, thing)

    def test_each_of_the_five(self):
        wrong = {
            "grammar": ODD + ("s", (), (("s",), 1, ()), (("s",), 0, ((0, (1,)),)), (["s"], 0, ()), DEEP),
            "tokens": ODD + ("a", (), ("a", "a"), ("",), ("a", None), ["a", "b", "ab"], DEEP),
            "book": ODD + ((), (1, (0,)), (1, (0,), ((0, 0),)), (1, (1,), ((0, 0, 0),)), (1, (0,), ((0, 0, 1),)), list(FREE)),
            "begun": ODD + (0, (), ("a",), DEEP),
            "mode": ODD + ("", "Behind", "heal", 0, ("behind",), ("behind", "healed"), DEEP),
        }
        for k, (word, values) in enumerate(wrong.items()):
            for value in values:
                if word != "begun" or value != "":
                    task = TASK[:k] + (value,) + TASK[k + 1 :]
                    self.refuses(f"InvalidPaper('{word}', -1)", lets_task, task)

    def test_the_first_one_first(self):
        bad = (None, None, None, None, None)
        words = ("grammar", "tokens", "book", "begun", "mode")
        for k in range(5):
            self.refuses(f"InvalidPaper('{words[k]}', -1)", lets_task, TASK[:k] + bad[k:])

    def test_the_book_is_for_these_tokens(self):
        self.refuses("InvalidPaper('book', -1)", lets_task, (NEST, LONE, FREE, "", "behind"))
        self.same(lets_task((NEST, CUTS, BOOK, "", "behind")), 3)


class IsGoodTest(Case):
    def test_by_the_definition(self):
        chance = random.Random(46)
        good = 0
        for _ in range(400):
            grammar = some_grammar(chance)
            tokens, book, begun = some_case(chance)
            texts = texts_by_sets(grammar, 12)[grammar[1]] if len(grammar[2]) < 4 else None
            for mode in MODES:
                task = (grammar, tokens, book, begun, mode)
                for row in rows_upto(len(tokens), 3):
                    text = row_text(tokens, row)
                    text = begun + text if mode == "behind" else text
                    member = in_grammar(grammar, text) if texts is None else text in texts
                    expected = takes(tokens, book, row) and member and text.startswith(begun)
                    self.same(is_good(task, row), expected)
                    self.same(letters_read(task, row), text)
                    good += expected
        self.assertGreater(good, 50)

    def test_edges(self):
        self.same(is_good(TASK, ()), True)
        self.same(is_good((PART,) + TASK[1:], ()), False)
        # The letters read have to begin with begun: the whole of it.
        self.same(is_good((NEST, CUTS, FREE, "ab", "healed"), ()), False)
        self.same(is_good((NEST, CUTS, FREE, "ab", "healed"), (2,)), True)
        self.same(is_good((NEST, CUTS, FREE, "ab", "behind"), ()), True)
        self.same(is_good((NEST, CUTS, FREE, "ab", "behind"), (2,)), False)
        self.same(is_good((NEST, CUTS, (1, (), ((0, 0, 0),)), "", "behind"), ()), False)
        self.same(is_good((NEST, CUTS, BOOK, "", "behind"), (0, 2, 1)), True)
        self.same(is_good((NEST, CUTS, BOOK, "", "behind"), (0, 0, 1, 1)), False)

    def test_sixty_tokens(self):
        self.same(is_good(TASK, (0,) * 30 + (1,) * 30), True)
        self.same(is_good((NEST, CUTS, FREE, "a" * 60, "behind"), (1,) * 60), True)
        self.same(is_good((NEST, CUTS, FREE, "a" * 60, "behind"), (1,) * 59), False)
        tokens = ("a" * 12, "b" * 12)
        self.same(is_good((NEST, tokens, (1, (0,), ((0, 0),)), "a" * 396, "healed"), (0,) * 30 + (1,) * 30), False)
        self.same(is_good((NEST, tokens, (1, (0,), ((0, 0),)), "a" * 360, "healed"), (0,) * 30 + (1,) * 30), True)
        self.same(is_good((NEST, tokens, (1, (0,), ((0, 0),)), "a" * 384, "behind"), (0,) * 14 + (1,) * 46), True)

    def test_refuses(self):
        for mode in MODES:
            self.refuses_all("NotUsable('row')", is_good, ((NEST, CUTS, FREE, "", mode),), BAD_ROWS)


class LettersReadTest(Case):
    def test_edges(self):
        self.same(letters_read((NEST, CUTS, FREE, "a", "behind"), (1,)), "ab")
        self.same(letters_read((NEST, CUTS, FREE, "a", "healed"), (1,)), "b")
        self.same(letters_read((NEST, CUTS, FREE, "ab", "healed"), ()), "")
        self.same(letters_read((NEST, CUTS, FREE, "ab", "behind"), ()), "ab")

    def test_without_a_place(self):
        task = (NEST, CUTS, BOOK, "ab", "healed")
        self.same(place_behind(CUTS, BOOK, "ab", "healed", (0, 0)), None)
        self.same(letters_read(task, (0, 0)), "aa")
        self.same(letters_read((NEST, CUTS, BOOK, "ab", "behind"), (0, 0)), "abaa")

    def test_sixty_tokens(self):
        self.same(letters_read((NEST, ("a" * 12,), (1, (0,), ((0,),)), "b" * 400, "behind"), (0,) * 60), "b" * 400 + "a" * 720)

    def test_refuses(self):
        for mode in MODES:
            self.refuses_all("NotUsable('row')", letters_read, ((NEST, CUTS, FREE, "", mode),), BAD_ROWS)
