"""[32], [35]: the texts of a grammar, listed."""

import random

from stillends.listings import texts_upto
from stillends.members import in_grammar
from tests.definitions import texts_by_sets
from tests.helpers import BAD_SHORTS, NEST, PAIRS, PART, Case
from tests.test_trees import GRAMMARS, ODD_ONES, RING
from tests.test_usefulness import some_grammar


class TextsUptoTest(Case):
    def test_by_sets(self):
        chance = random.Random(321)
        for grammar in [some_grammar(chance) for _ in range(300)] + list(GRAMMARS):
            texts = texts_by_sets(grammar, 5)[grammar[1]]
            for most in range(6):
                expected = sorted([text for text in texts if len(text) <= most], key=lambda text: (len(text), text))
                self.same(texts_upto(grammar, most), tuple(expected))

    def test_edges(self):
        self.same(texts_upto(NEST, 0), ("",))
        self.same(texts_upto(NEST, 1), ("",))
        self.same(texts_upto(PART, 0), ())
        self.same(texts_upto(PAIRS, 60), ("", "a", "aa"))
        self.same(texts_upto((("s",), 0, ()), 60), ())
        self.same(texts_upto((("s",), 0, ((0, (0, "a")),)), 60), ())
        self.same(texts_upto(RING, 60), tuple("a" * k for k in range(61)))

    def test_sixty_letters(self):
        found = texts_upto(NEST, 60)
        self.same(found, tuple("a" * k + "b" * k for k in range(31)))
        self.same(texts_upto(NEST, 59), found[:30])

    def test_by_length_and_then_as_strings(self):
        grammar = (("s",), 0, ((0, (" ",)), (0, ("~",)), (0, ("a", "b")), (0, ("B",)), (0, ("A", "z")), (0, ("b",))))
        self.same(texts_upto(grammar, 60), (" ", "B", "b", "~", "Az", "ab"))

    def test_names_with_far_more_texts_than_the_grammar(self):
        # Name 1 has endlessly many texts, over two letters, but little room for them.
        grammar = (("s", "t"), 0, ((0, ("c",) * 11 + (1,)), (1, ()), (1, ("a", 1)), (1, ("b", 1))))
        found = texts_upto(grammar, 20)
        self.same(len(found), 2**10 - 1)
        self.same(found[-1], "c" * 11 + "b" * 9)
        # Useless names have texts, too.
        grammar = (("s", "t"), 0, ((0, ("c",)), (1, ()), (1, ("a", 1)), (1, ("b", 1))))
        self.same(texts_upto(grammar, 60), ("c",))

    def test_about_four_thousand_texts(self):
        grammar = (("s",), 0, ((0, ()), (0, ("a", 0)), (0, ("b", 0))))
        self.same(len(texts_upto(grammar, 10)), 2047)
        grammar = (("s",), 0, ((0, ("a",)), (0, ("b",)), (0, (0, 0))))
        self.same(len(texts_upto(grammar, 10)), 2046)
        grammar = (("s", "t"), 0, ((0, (1,) * 5), (1, tuple("a")), (1, tuple("b")), (1, tuple("c")), (1, tuple("dd"))))
        found = texts_upto(grammar, 60)
        self.same(len(found), 4**5)
        self.same(len(set(found)), len(found))
        self.assertTrue(all(in_grammar(grammar, text) for text in found[::100]))

    def test_useless_rules_do_not_hinder(self):
        self.same(texts_upto(ODD_ONES, 3), ("", "a", "aa", "aaa"))

    def test_refuses(self):
        self.refuses_all("NotUsable('most')", texts_upto, (NEST,), BAD_SHORTS)
