"""[63], [67]: the letters that may come next, and sure beginnings."""

import random

from stillends.members import begins, in_grammar
from stillends.nextletters import next_letters, sure_beginning
from tests.chances import DOUBLE, DYCK, FORK, LEFT, LISTS, NO_TEXTS, REGULAR, one_way_grammar
from tests.helpers import BAD_TEXTS, NEST, Case, texts_over
from tests.test_trees import ODD_ONES, RING


class NextLettersTest(Case):
    def test_by_beginnings(self):
        chance = random.Random(63)
        for grammar in [one_way_grammar(chance) for _ in range(50)] + [NEST, FORK, DYCK, LISTS, NO_TEXTS, ODD_ONES]:
            for text in texts_over("ab", 3):
                letters = tuple(letter for letter in "abcd" if begins(grammar, text + letter))
                self.same(next_letters(grammar, text), (letters, in_grammar(grammar, text)))

    def test_edges(self):
        self.same(next_letters(NEST, ""), (("a",), True))
        self.same(next_letters(NEST, "aab"), (("b",), False))
        self.same(next_letters(NEST, "ba"), ((), False))
        self.same(next_letters(NEST, "ab"), ((), True))
        self.same(next_letters(NO_TEXTS, ""), ((), False))
        self.same(next_letters((("s",), 0, ((0, ()),)), ""), ((), True))
        # Behind t, which may be empty, the letters behind it count, too.
        row = (("s", "t", "u"), 0, ((0, (1, 2, "!")), (1, ()), (1, ("z",)), (2, ()), (2, ("b", " "))))
        self.same(next_letters(row, ""), (("!", "b", "z"), False))
        self.same((next_letters(row, "z"), next_letters(row, "b")), ((("!", "b"), False), ((" ",), False)))
        self.same(next_letters(REGULAR, "ab" * 600), (("a", "b"), True))

    def test_refuses(self):
        self.refuses_all("NotUsable('text')", next_letters, (NEST,), BAD_TEXTS)
        self.refuses_all("NotUsable('text')", next_letters, (LEFT,), BAD_TEXTS)
        self.refuses("NotOneWay(0, 0, 1, 'a')", next_letters, RING, "")


class SureBeginningTest(Case):
    def test_by_beginnings(self):
        chance = random.Random(631)
        for grammar in [one_way_grammar(chance) for _ in range(50)] + [NEST, FORK, DYCK, LISTS, NO_TEXTS, ODD_ONES]:
            for text in texts_over("abc", 3):
                fitting = [k for k in range(len(text) + 1) if begins(grammar, text[:k])]
                self.same(sure_beginning(grammar, text), max(fitting, default=None))

    def test_edges(self):
        self.same((sure_beginning(NEST, "abab"), sure_beginning(NEST, "ba")), (2, 0))
        self.same((sure_beginning(NO_TEXTS, ""), sure_beginning(NO_TEXTS, "a"), sure_beginning(NEST, "")), (None, None, 0))
        self.same(sure_beginning(NEST, "a" * 1200), 1200)
        self.same(sure_beginning(NEST, "a" * 500 + "b" * 700), 1000)

    def test_refuses(self):
        self.refuses_all("NotUsable('text')", sure_beginning, (NEST,), BAD_TEXTS)
        self.refuses_all("NotUsable('text')", sure_beginning, (DOUBLE,), BAD_TEXTS)
        self.refuses("NotOneWay(0, 0, 2, 'a')", sure_beginning, DOUBLE, "")
