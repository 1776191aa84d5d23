"""Which letters may come behind a text, and how far a text is sure to be a beginning."""

from stillends.checks import ask_text
from stillends.stands import OneWay


def next_letters(grammar, text):
    """The letters, ascending, with which some text of the grammar goes on behind the text; and whether it is one."""
    ask_text(text)
    way = OneWay(grammar)
    many, cell = _read(way, text)
    if many is None or many < len(text):
        return ((), False)
    return (tuple(way.next_letters(cell)), way.may_end(cell))


def sure_beginning(grammar, text):
    """How many letters of the text, at most, some text of the grammar begins with; None if it has no text."""
    ask_text(text)
    return _read(OneWay(grammar), text)[0]


def _read(way, text):
    """How many letters of the text can be pushed one by one, None if the grammar has no text; the cell behind them."""
    cell = way.first()
    if cell is None:
        return (None, None)
    for k, letter in enumerate(text):
        pushed = way.pushed(cell, letter)
        if pushed is None:
            return (k, cell)
        cell = pushed[0]
    return (len(text), cell)
