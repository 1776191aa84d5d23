"""[3], [14]: letters, texts, numbers, END; and words, as [4] has them for names."""

from stillends.letters import END, is_letter, is_number, is_text, is_word
from tests.helpers import DEEP, Case

SIGNS = [chr(k) for k in range(32, 127) if chr(k) != "%"]
NO_STRINGS = (None, True, False, 0, 1, -1, 10**59, (), [], ("a",), ["a"], DEEP)


class LettersTest(Case):
    def test_end(self):
        self.same(END, -1)

    def test_letters(self):
        for sign in SIGNS:
            self.same(is_letter(sign), True)
        for thing in NO_STRINGS + ("", "ab", "  ", "\n", "\t", "%", "a\n", "\x1f", "\x7f", "\u00e9"):
            self.same(is_letter(thing), False)

    def test_texts(self):
        for thing in ("", " ", "ab", "".join(SIGNS), "a" * 5000):
            self.same(is_text(thing), True)
        for thing in NO_STRINGS + ("\n", "a\n", "\nb", "a%b", "a\tb", "a" * 5000 + "\n"):
            self.same(is_text(thing), False)

    def test_numbers(self):
        for thing in (0, 1, 60, 10**59, 10**70):
            self.same(is_number(thing), True)
        for thing in (True, False, None, -1, -(10**59), "1", "", (), (1,), [1], DEEP):
            self.same(is_number(thing), False)

    def test_words(self):
        for thing in ("a", "z9", "a00000000000", "start"):
            self.same(is_word(thing), True)
        for thing in NO_STRINGS + ("", "9a", "A", "aB", "a_b", "a b", "a\n", "a000000000000", "-", "a-", "~", "a~"):
            self.same(is_word(thing), False)
