"""[19], [24]: longest rows, and the least book of them."""

import random

from stillends.books import takes
from stillends.canon import canon_book, longest_row
from stillends.tokenlists import row_text
from tests.helpers import BAD_TEXTS, CUTS, LONE, rows_upto, texts_over
from tests.test_pairbooks import LeastBookCase

# Letters that are no token of more than one sign.
LETTERS = tuple(chr(k) for k in range(33, 127) if chr(k) != "%")


def some_tokens(chance):
    """Up to seven tokens of the letters a and b, or a, b and c."""
    letters = chance.choice(("ab", "ab", "abc"))
    texts = [text for text in texts_over(letters, 4) if text]
    return tuple(chance.sample(texts, chance.randint(1, 7)))


def longest_by_trying(tokens, text):
    """The longest row, as the document tells it, by trying all tokens at each step."""
    row = ()
    while text:
        fitting = [token for token in tokens if text.startswith(token)]
        if not fitting:
            return None
        token = max(fitting, key=len)
        row += (tokens.index(token),)
        text = text[len(token) :]
    return row


class LongestRowTest(LeastBookCase):
    def test_by_trying(self):
        chance = random.Random(19)
        for _ in range(30):
            tokens = some_tokens(chance)
            for text in texts_over("abc", 6):
                self.same(longest_row(tokens, text), longest_by_trying(tokens, text))

    def test_edges(self):
        self.same(longest_row(CUTS, ""), ())
        self.same(longest_row(("ab",), "aba"), None)
        self.same(longest_row(("abcdefghijkl", "a"), "aabcdefghijkl"), (1, 0))
        self.same(longest_row(("a",), "a" * 1200), (0,) * 1200)
        self.same(longest_row(("a", "aa" * 6), "a" * 1199), (1,) * 99 + (0,) * 11)

    def test_other_rows_may_spell_what_has_none(self):
        self.same(row_text(("a", "ab", "bc"), (0, 2)), "abc")
        self.same(longest_row(("a", "ab", "bc"), "abc"), None)

    def test_refuses(self):
        self.refuses_all("NotUsable('text')", longest_row, (CUTS,), BAD_TEXTS)


class CanonBookTest(LeastBookCase):
    def check(self, tokens, most):
        book = canon_book(tokens)
        self.is_least(tokens, book)
        for row in rows_upto(len(tokens), most):
            self.same(takes(tokens, book, row), longest_row(tokens, row_text(tokens, row)) == row)

    def test_takes_just_the_longest_rows(self):
        chance = random.Random(24)
        for _ in range(60):
            tokens = some_tokens(chance)
            self.check(tokens, 5 if len(tokens) < 5 else 4)

    def test_tokens_over_tokens(self):
        self.check(("a", "aa", "aaa"), 6)
        self.check(("a", "aaa"), 8)
        self.check(("a", "b", "abab", "bb"), 6)
        self.check(("b", "ab", "a", "bab", "abba"), 5)

    def test_what_cannot_be_spelled_makes_no_state(self):
        self.same(canon_book(LONE), (1, (0,), ((0, 0),)))
        self.same(canon_book(("a",)), (1, (0,), ((0,),)))
        self.same(canon_book(("a", "aa")), (2, (0, 1), ((1, 0), (-1, -1))))

    def test_a_longer_token_far_ahead(self):
        tokens = ("a", "aaaaaaaaaaaa")
        book = canon_book(tokens)
        self.same(book[0], 12)
        self.is_least(tokens, book)
        self.same(takes(tokens, book, (0,) * 11), True)
        self.same(takes(tokens, book, (0,) * 12), False)
        self.same(takes(tokens, book, (1, 1) + (0,) * 11), True)

    def test_sixty_states_and_one_more(self):
        # Behind the one letter the next one must not stand: a state for each such letter.
        pairs = tuple(LETTERS[k] + LETTERS[k + 1] for k in range(59))
        book = canon_book(LETTERS[:60] + pairs)
        self.same(book[0], 60)
        self.is_least(LETTERS[:60] + pairs, book)
        self.refuses("TooMuch('book')", canon_book, LETTERS[:60] + pairs + (LETTERS[59] + LETTERS[0],))

    def test_states_are_merged_before_they_are_counted(self):
        # Many texts are open, but behind each the same rows go on: none spells the last letter x.
        tokens = ("a", "b") + tuple(text + "x" for text in texts_over("ab", 6) if len(text) == 6)
        self.same(canon_book(tokens), (1, (0,), ((0,) * 66,)))
        # With the token x it matters only how many of the last letters, up to six, were written one by one.
        book = canon_book(tokens + ("x",))
        self.same(book[0], 7)
        self.is_least(tokens + ("x",), book)
        self.same(takes(tokens + ("x",), book, (0, 1, 0, 1, 0, 66, 1, 0, 1, 0, 1, 66)), True)
        self.same(takes(tokens + ("x",), book, (0, 1, 0, 1, 0, 1, 66)), False)

    def test_tokens_up_to_the_limits(self):
        many = tuple("ab" * 5 + LETTERS[k] + "c" for k in range(90))
        self.same(canon_book(many), (1, (0,), ((0,) * 90,)))
        self.same(canon_book(("a", "b") + many)[0], 1)
