"""[31], [35]: texts of a grammar, their beginnings, and spans."""

import random

from stillends.errors import StillError
from stillends.listings import texts_upto
from stillends.members import begins, in_grammar, spans_of
from tests.definitions import beginnings_by_sets, texts_by_sets
from tests.helpers import BAD_TEXTS, NEST, PAIRS, PART, Case, texts_over
from tests.test_trees import GRAMMARS, ODD_ONES, RING
from tests.test_usefulness import some_grammar

LISTS = (("s", "t"), 0, ((0, (1,)), (0, (0, ",", 1)), (1, ("a",)), (1, ("(", 0, ")"))))


def some_grammars(seed, many):
    chance = random.Random(seed)
    return [some_grammar(chance) for _ in range(many)] + list(GRAMMARS)


class InGrammarTest(Case):
    def test_by_sets(self):
        for grammar in some_grammars(311, 150):
            texts = texts_by_sets(grammar, 4)[grammar[1]]
            for text in texts_over("ab", 4):
                self.same(in_grammar(grammar, text), text in texts)

    def test_edges(self):
        self.same(in_grammar(NEST, ""), True)
        self.same(in_grammar(PART, ""), False)
        self.same(in_grammar((("s",), 0, ()), ""), False)
        self.same(in_grammar((("s",), 0, ((0, (0,)),)), ""), False)
        self.same(in_grammar(NEST, "~ "), False)
        self.same(in_grammar((("s",), 0, ((0, (" ", "~")),)), " ~"), True)

    def test_useless_names_have_no_texts_of_the_grammar(self):
        self.same(in_grammar(ODD_ONES, "cd"), False)
        self.same(in_grammar(ODD_ONES, "a"), True)

    def test_body_of_twelve(self):
        names = (("s", "t"), 0, ((0, (1,) * 12), (1, ("a",)), (1, ("b", "b"))))
        for text in ("a" * 12, "bb" * 12, "a" * 5 + "bb" * 7, "bb" + "a" * 11):
            self.same(in_grammar(names, text), True)
        for text in ("a" * 11, "a" * 13, "b" + "a" * 11, ""):
            self.same(in_grammar(names, text), False)

    def test_long_texts(self):
        self.same(in_grammar(NEST, "a" * 600 + "b" * 600), True)
        self.same(in_grammar(NEST, "a" * 600 + "b" * 599 + "a"), False)
        self.same(in_grammar(RING, "a" * 1200), True)
        self.same(in_grammar(RING, "a" * 1199 + "b"), False)
        self.same(in_grammar(LISTS, "(" * 400 + "a" + ")" * 400 + ",a" * 199), True)
        self.same(in_grammar(LISTS, "(" * 400 + "a" + ")" * 399 + ",a" * 199), False)
        right = (("s", "t"), 0, ((0, ("a", 0)), (0, (1,)), (1, ("b", 1)), (1, ())))
        self.same(in_grammar(right, "a" * 700 + "b" * 500), True)
        self.same(in_grammar(right, "a" * 700 + "b" * 499 + "a"), False)

    def test_names_that_derive_one_another_around(self):
        names = tuple(f"n{k}" for k in range(60))
        rules = tuple(rule for k in range(60) for rule in ((k, ()), (k, ("a", (k + 1) % 60)), (k, ((k + 1) % 60,))))
        self.same(in_grammar((names, 7, rules), "a" * 300), True)
        self.same(in_grammar((names, 7, rules), "a" * 299 + "b"), False)

    def test_refuses(self):
        self.refuses_all("NotUsable('text')", in_grammar, (NEST,), BAD_TEXTS)


class BeginsTest(Case):
    def test_by_sets(self):
        for grammar in some_grammars(312, 150):
            found = [text for text, _ in beginnings_by_sets(grammar, 4)[grammar[1]]]
            for text in texts_over("ab", 4):
                self.same(begins(grammar, text), any(other.startswith(text) for other in found))

    def test_edges(self):
        self.same(begins(NEST, ""), True)
        self.same(begins((("s",), 0, ()), ""), False)
        self.same(begins((("s", "t"), 0, ((0, ("a", 1)),)), "a"), False)
        self.same(begins((("s", "t"), 0, ((0, ("a", 1)), (1, ("b",)))), "a"), True)
        self.same(begins(NEST, "~"), False)

    def test_useless_names_do_not_count(self):
        self.same(begins(ODD_ONES, "c"), False)

    def test_long_texts(self):
        self.same(begins(NEST, "a" * 1200), True)
        self.same(begins(NEST, "a" * 600 + "b" * 600), True)
        self.same(begins(NEST, "a" * 599 + "b" * 600), False)
        self.same(begins(LISTS, "(" * 1200), True)
        self.same(begins(LISTS, "(" * 1199 + ")"), False)

    def test_what_follows_may_be_far_longer(self):
        names = tuple(f"n{k}" for k in range(60))
        rules = tuple((k, (k + 1,) * 12 if k < 59 else ("a", "b")) for k in range(60))
        self.same(begins((names, 0, rules), "ab" * 600), True)
        self.same(begins((names, 0, rules), "ab" * 599 + "b"), False)
        self.same(in_grammar((names, 0, rules), "ab" * 600), False)

    def test_refuses(self):
        self.refuses_all("NotUsable('text')", begins, (NEST,), BAD_TEXTS)


class SpansOfTest(Case):
    def test_by_sets(self):
        for grammar in some_grammars(313, 100):
            texts = texts_by_sets(grammar, 4)
            for text in texts_over("ab", 4):
                expected = [
                    (begin, name, end)
                    for begin in range(len(text) + 1)
                    for name in range(len(grammar[0]))
                    for end in range(begin, len(text) + 1)
                    if text[begin:end] in texts[name]
                ]
                self.same(spans_of(grammar, text), tuple(expected))

    def test_consequences(self):
        for grammar in some_grammars(35, 60):
            listed = texts_upto(grammar, 3)
            for text in texts_over("ab", 3):
                member = (0, grammar[1], len(text)) in spans_of(grammar, text)
                self.same(in_grammar(grammar, text), member)
                self.same(text in listed, member)
                if member:
                    self.same([begins(grammar, text[:k]) for k in range(len(text))], [True] * len(text))

    def test_useless_names_count(self):
        self.same(spans_of(ODD_ONES, "cd"), ((0, 0, 0), (0, 3, 0), (0, 3, 2), (1, 0, 1), (1, 3, 1), (2, 0, 2), (2, 3, 2)))
        self.same(spans_of(PAIRS, ""), ((0, 0, 0), (0, 1, 0)))
        self.same(spans_of((("s",), 0, ()), "ab"), ())
        self.same(spans_of((("s", "t"), 0, ((1, ("a",)),)), "aba"), ((0, 1, 1), (2, 1, 3)))

    def test_long_texts(self):
        found = spans_of(NEST, "a" * 600 + "b" * 600)
        self.same(len(found), 1801)
        self.assertIn((0, 0, 1200), found)
        self.same(spans_of(LISTS, "x" * 1200), ())

    def test_refuses(self):
        self.refuses_all("NotUsable('text')", spans_of, (NEST,), BAD_TEXTS)

    def test_a_refused_call_changes_nothing(self):
        before = spans_of(NEST, "ab")
        with self.assertRaises(StillError):
            spans_of(NEST, None)
        self.same(spans_of(NEST, "ab"), before)
