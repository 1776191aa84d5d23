"""[9], [62], [67], (G6): stands."""

import random

from stillends.members import begins, in_grammar
from stillends.stands import may_end, push_letter, stand_behind
from tests.chances import DYCK, FORK, LEFT, LISTS, NO_TEXTS, REGULAR, one_way_grammar
from tests.helpers import BAD_TEXTS, DEEP, NEST, ODD, PART, Case, texts_over
from tests.plainly import Stands
from tests.test_trees import ODD_ONES, RING

BAD_LETTERS = ODD + (0, "", "ab", "%", ("a",), DEEP)
# For a grammar with one name, which is useful.
BAD_STANDS = tuple(thing for thing in ODD if not isinstance(thing, tuple)) + (
    0, "", "a", (1,), (-1,), (True,), (False, 0), ("ab",), ("",), ("%",), ("a", None), ((),), ((0,),), [0], DEEP,
)


class StandBehindTest(Case):
    def test_by_the_steps(self):
        chance = random.Random(62)
        there = 0
        for _ in range(120):
            grammar = one_way_grammar(chance)
            stands = Stands(grammar)
            for text in texts_over("ab", 4):
                expected = stands.behind(text)
                self.same(stand_behind(grammar, text), expected and expected[0])
                there += expected is not None
        self.assertGreater(there, 500)

    def test_guarantee(self):
        """(G6): there exactly if the text begins some text; it may end exactly if the text is one."""
        chance = random.Random(621)
        for grammar in [one_way_grammar(chance) for _ in range(60)] + [NEST, DYCK, REGULAR, FORK, LISTS, NO_TEXTS]:
            for text in texts_over("abc", 3):
                stand = stand_behind(grammar, text)
                self.same(stand is not None, begins(grammar, text))
                self.same(stand is not None and may_end(grammar, stand), in_grammar(grammar, text))

    def test_edges(self):
        self.same((stand_behind(NEST, "aa"), stand_behind(NEST, "aba")), ((0, "b", "b"), None))
        self.same(stand_behind(NEST, ""), (0,))
        self.same((stand_behind(NO_TEXTS, ""), stand_behind(NO_TEXTS, "a")), (None, None))
        self.same(stand_behind((("s", "t"), 0, ((0, (0,)), (1, ("a",)))), ""), None)
        self.same(stand_behind(ODD_ONES, "aa"), (0,))
        # Names that are empty stay on the stand until a letter takes them off.
        self.same(stand_behind(FORK, ""), (0,))
        self.same(stand_behind(FORK, "a"), (1, "b", "c"))
        self.same(stand_behind(FORK, "abc"), ())

    def test_long_texts(self):
        self.same(stand_behind(NEST, "a" * 1200), (0,) + ("b",) * 1200)
        self.same(stand_behind(NEST, "a" * 600 + "b" * 600), ())
        self.same(stand_behind(REGULAR, "ab" * 600), (0,))

    def test_refuses(self):
        self.refuses_all("NotUsable('text')", stand_behind, (NEST,), BAD_TEXTS)
        self.refuses_all("NotUsable('text')", stand_behind, (RING,), BAD_TEXTS)
        self.refuses("NotOneWay(0, 0, 1, 'a')", stand_behind, RING, "")


class PushLetterTest(Case):
    def test_by_the_steps(self):
        chance = random.Random(622)
        there = 0
        for _ in range(250):
            grammar = one_way_grammar(chance)
            stands = Stands(grammar)
            symbols = list(stands.names) + ["a", "b", "z"]
            for _ in range(6):
                stand = tuple(chance.choice(symbols) for _ in range(chance.randint(0, 4)))
                for letter in "abz":
                    expected = stands.push(stand, letter)
                    self.same(push_letter(grammar, stand, letter), expected and expected[0])
                    there += expected is not None
                self.same(may_end(grammar, stand), stands.may_end(stand))
        self.assertGreater(there, 800)

    def test_letter_by_letter(self):
        for grammar, text in ((NEST, "aabb"), (FORK, "aabbc"), (LISTS, "badbadacdac")):
            stand = (0,)
            for k, letter in enumerate(text):
                stand = push_letter(grammar, stand, letter)
                self.same(stand, stand_behind(grammar, text[: k + 1]))

    def test_edges(self):
        self.same((push_letter(NEST, (0, "b"), "b"), push_letter(NEST, ("b", 0), "a")), ((), None))
        self.same(push_letter(NEST, (), "a"), None)
        self.same(push_letter(NEST, (0,), "b"), None)
        self.same(push_letter(NEST, (0, 0, 0, "x"), "x"), ())
        self.same(push_letter(NO_TEXTS, ("a", "b"), "a"), ("b",))
        self.same(push_letter(NEST, ("a",) * 5000, "a"), ("a",) * 4999)
        self.same(push_letter(NEST, (0,) * 5000 + ("c",), "c"), ())

    def test_refuses(self):
        self.refuses_all("NotUsable('stand')", push_letter, (NEST,), BAD_STANDS, ("a",))
        self.refuses_all("NotUsable('stand')", push_letter, (RING,), BAD_STANDS, ("",))
        self.refuses_all("NotUsable('letter')", push_letter, (NEST, (0,)), BAD_LETTERS)
        self.refuses_all("NotUsable('letter')", push_letter, (LEFT, ()), BAD_LETTERS)
        # A useless name, and any name of a grammar without texts.
        self.refuses("NotUsable('stand')", push_letter, ODD_ONES, (0, 3), "a")
        self.refuses("NotUsable('stand')", push_letter, PART, (2,), "a")
        self.refuses("NotUsable('stand')", push_letter, NO_TEXTS, (0,), "a")
        self.refuses("NotOneWay(0, 0, 1, 'a')", push_letter, LEFT, (), "a")


class MayEndTest(Case):
    def test_edges(self):
        self.same((may_end(NEST, (0, 0)), may_end(NEST, (0, "b"))), (True, False))
        self.same((may_end(NEST, ()), may_end(NO_TEXTS, ()), may_end(FORK, (1, 0))), (True, True, False))
        self.same((may_end(NEST, (0,) * 5000), may_end(NEST, (0,) * 5000 + ("a",))), (True, False))

    def test_refuses(self):
        self.refuses_all("NotUsable('stand')", may_end, (NEST,), BAD_STANDS)
        self.refuses_all("NotUsable('stand')", may_end, (LEFT,), BAD_STANDS)
        self.refuses("NotUsable('stand')", may_end, ODD_ONES, (1,))
        self.refuses("NotOneWay(0, 0, 1, 'a')", may_end, LEFT, (0,))
