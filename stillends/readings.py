"""The only tree of a text in a grammar that reads one way."""

from stillends.checks import ask_text
from stillends.readers import Reader


def read_tree(grammar, text):
    """The only tree of the grammar with the text, None if there is none."""
    ask_text(text)
    reader = Reader(grammar)
    for letter in text:
        if not reader.push(letter):
            return None
    return reader.end()
