"""[3], [16]: inner texts and numbers of tokens."""

from stillends.tries import inner_texts, token_number
from tests.helpers import BAD_TEXTS, CUTS, Case


class InnerTextsTest(Case):
    def test_proper_beginnings_each_once_by_length(self):
        self.same(inner_texts(("a",)), ("",))
        self.same(inner_texts(("b", "a", "c")), ("",))
        self.same(inner_texts(("bab", "bb", "abc", "a")), ("", "a", "b", "ab", "ba"))
        self.same(inner_texts(("zz", "Zb", " b")), ("", " ", "Z", "z"))

    def test_longer_ones_come_later(self):
        self.same(inner_texts(("bcd", "abcdefghijkl")), ("", "a", "b", "ab", "bc") + tuple(
            "abcdefghijkl"[:k] for k in range(3, 12)
        ))

    def test_by_the_definition(self):
        tokens = tuple(f"{a}{b}x{a}"[: 1 + (a * b) % 4] for a in range(5) for b in range(5))
        tokens = tuple(dict.fromkeys(tokens))
        found = inner_texts(tokens)
        self.assertEqual(set(found), {token[:k] for token in tokens for k in range(len(token))})
        self.assertEqual(list(found), sorted(found, key=lambda text: (len(text), text)))
        self.assertEqual(len(found), len(set(found)))


class TokenNumberTest(Case):
    def test_number(self):
        for k, token in enumerate(CUTS):
            self.same(token_number(CUTS, token), k)
        for text in ("", "ba", "aba", "c", "a" * 1200):
            self.same(token_number(CUTS, text), -1)

    def test_refuses(self):
        self.refuses_all("NotUsable('text')", token_number, (CUTS,), BAD_TEXTS)
