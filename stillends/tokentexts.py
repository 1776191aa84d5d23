"""Tokens and books as lines of text, written and read."""

from stillends.books import lets_book
from stillends.errors import InvalidPaper, InvalidText
from stillends.grammartexts import split_lines

# The most figures of a numeral.
_FIGURES_LIMIT = 60


def token_lines(tokens):
    """The tokens as lines."""
    return "\n".join(tokens)


def read_tokens(text):
    """The tokens with these lines; InvalidText for the first fault."""
    lines = split_lines(text)
    known = {}
    for line, token in enumerate(lines):
        if token == "":
            raise InvalidText(line, "empty")
        if token in known:
            raise InvalidText(line, "twice")
        known[token] = True
    return tuple(lines)


def book_lines(tokens, book):
    """The lines of the book: its count and its finals, and for each state where the tokens lead."""
    count, finals, table = book
    lines = [" ".join([str(count) + ":"] + [str(state) for state in finals])]
    lines.extend([joined_numbers(row, " ") for row in table])
    return "\n".join(lines)


def read_book(tokens, text):
    """The book with these lines; InvalidText for the first fault."""
    rows = []
    for line, told in enumerate(split_lines(text)):
        words = told.split(" ")
        if line == 0 and words[0][-1:] == ":":
            words[0] = words[0][:-1]
        elif line == 0:
            raise InvalidText(line, "form")
        if not all([is_numeral(word) for word in words]):
            raise InvalidText(line, "form")
        rows.append(tuple([int(word) for word in words]))
    book = (rows[0][0], rows[0][1:], tuple(rows[1:]))
    try:
        lets_book(tokens, book)
    except InvalidPaper:
        raise InvalidText(0, "book") from None
    return book


def is_numeral(word):
    """Whether the word is an integer of at most sixty figures as Python writes it."""
    return is_unsigned(word) or word[:1] == "-" and word != "-0" and is_unsigned(word[1:])


def is_unsigned(word):
    """Whether the word is a numeral without sign."""
    if not 1 <= len(word) <= _FIGURES_LIMIT or not all(["0" <= sign <= "9" for sign in word]):
        return False
    return word == "0" or word[0] != "0"


def joined_numbers(numbers, between):
    """The numerals of some numbers, with a sign between any two."""
    return between.join([str(number) for number in numbers])
