"""[112], [114], [118]: tokens and books as lines."""

import random

from stillends.books import lets_book
from stillends.canon import canon_book
from stillends.tokentexts import book_lines, read_book, read_tokens, token_lines
from tests.chances import rich_case
from tests.helpers import CUTS, DEEP, FREE, LONE, ODD, Case

NO_NUMERALS = ("", "a", "01", "-0", "00", "+1", "--1", "-", "1.0", "1_0", "0x1", "1e1", "1:", "1,0", "9" * 61, "-" + "9" * 61)


class TokensTest(Case):
    def test_there_and_back(self):
        chance = random.Random(114)
        for _ in range(200):
            tokens = rich_case(chance)[0]
            self.same(read_tokens(token_lines(tokens)), tokens)
        many = tuple(f"{k:012d}" for k in range(120))
        for tokens in (CUTS, LONE, ("a",), (" ", "  ", "a b", "'", "start s"), many):
            self.same(read_tokens(token_lines(tokens)), tokens)

    def test_lines(self):
        self.same(token_lines(CUTS), "a\nb\nab")
        self.same(read_tokens("ab\n \na"), ("ab", " ", "a"))

    def test_empty(self):
        for text, line in (("", 0), ("\n", 0), ("a\n", 1), ("\na", 0), ("a\n\nb", 1), ("a\nb\n\n", 2)):
            self.refuses(f"InvalidText({line}, 'empty')", read_tokens, text)

    def test_twice(self):
        for text, line in (("a\na", 1), ("a\nb\nab\nb", 3), ("a\nb\nb\na", 2)):
            self.refuses(f"InvalidText({line}, 'twice')", read_tokens, text)
        self.refuses("InvalidText(1, 'empty')", read_tokens, "a\n\na")
        self.refuses("InvalidText(1, 'twice')", read_tokens, "a\na\n")

    def test_errors(self):
        for thing in ODD + (0, (), ("a",), DEEP):
            if not isinstance(thing, str):
                self.refuses("NotUsable('text')", read_tokens, thing)
        self.same(read_tokens(text=token_lines(tokens=CUTS)), CUTS)


class BooksTest(Case):
    def test_there_and_back(self):
        chance = random.Random(1141)
        for _ in range(300):
            tokens, book, _ = rich_case(chance)
            self.same(read_book(tokens, book_lines(tokens, book)), book)
        many = tuple(f"{k}" for k in range(120))
        great = (60, tuple(range(60)), tuple(tuple((k * j) % 61 - 1 for j in range(120)) for k in range(60)))
        for tokens, book in ((CUTS, FREE), (CUTS, canon_book(CUTS)), (("a",), (1, (), ((-1,),))), (many, great)):
            self.same(lets_book(tokens, book), book[0])
            self.same(read_book(tokens, book_lines(tokens, book)), book)

    def test_example(self):
        self.same(book_lines(CUTS, (2, (), ((1, -1, 0), (0, 0, 0)))), "2:\n1 -1 0\n0 0 0")
        self.same(book_lines(CUTS, (2, (0, 1), ((1, -1, 0), (0, 0, 0)))), "2: 0 1\n1 -1 0\n0 0 0")
        self.same(read_book(CUTS, "2: 0 1\n1 -1 0\n0 0 0"), (2, (0, 1), ((1, -1, 0), (0, 0, 0))))

    def test_form(self):
        for line in ("", ":", " 1:", "1", "10", "10 0", "1 :", "1:0", "1: ", "1:  0", "1: 0 ", "1:: 0", "1: 0:", "a:", "1 0", "1: a", ": 0"):
            self.refuses("InvalidText(0, 'form')", read_book, ("a",), line + "\n0")
            self.refuses("InvalidText(0, 'form')", read_book, ("a",), line)
        for line in ("", " ", " 0", "0 ", "0  0", "0:", "a", "0 a", "0,0"):
            self.refuses("InvalidText(1, 'form')", read_book, ("a",), "1:\n" + line)
            self.refuses("InvalidText(2, 'form')", read_book, ("a",), "1:\n0\n" + line + "\n0")
        for word in NO_NUMERALS:
            self.refuses("InvalidText(0, 'form')", read_book, ("a",), word + ":\n0")
            self.refuses("InvalidText(0, 'form')", read_book, ("a",), "1: 0 " + word + "\n0")
            self.refuses("InvalidText(1, 'form')", read_book, ("a",), "1:\n0 " + word)
        self.refuses("InvalidText(1, 'form')", read_book, ("a",), "1: 0\n")

    def test_book(self):
        # Any numerals have the form, and any number of them.
        sixty = "9" * 60
        for text in (
            "1:", "0:", "-1:", "1:\n0\n0", "2:\n0", "1: 1\n0", "1: -1\n0", "2: 1 0\n0\n0", "2: 0 0\n0\n0", "1:\n1", "1:\n-2", "1:\n0 0",
            sixty + ":\n0", "-" + sixty + ": " + sixty + "\n-" + sixty, "1: 0 0 0 0 0\n0",
        ):
            self.refuses("InvalidText(0, 'book')", read_book, ("a",), text)
        self.refuses("InvalidText(0, 'book')", read_book, CUTS, "1:\n0 0")
        self.same(read_book(("a",), "1: 0\n-1"), (1, (0,), ((-1,),)))

    def test_the_first_one_first(self):
        self.refuses("InvalidText(0, 'form')", read_book, ("a",), "x\ny")
        self.refuses("InvalidText(2, 'form')", read_book, ("a",), "9:\n0\nx\ny")
        self.refuses("InvalidText(0, 'book')", read_book, ("a",), "9:\n0\n7")

    def test_errors(self):
        for thing in ODD + (0, (), ("1:",), DEEP):
            if not isinstance(thing, str):
                self.refuses("NotUsable('text')", read_book, CUTS, thing)
        self.same(read_book(text=book_lines(book=FREE, tokens=CUTS), tokens=CUTS), FREE)
