"""Stands: what has to come behind a text in a grammar that reads one way."""

from stillends.checks import ask_text, is_below
from stillends.errors import NotUsable
from stillends.letters import is_letter
from stillends.oneways import OneWay, stacked, symbols_of
from stillends.usefulness import useful_parts


def stand_behind(grammar, text):
    """The stand behind the text, None if there is none."""
    ask_text(text)
    way = OneWay(grammar)
    cell = way.first()
    if cell is None:
        return None
    for letter in text:
        pushed = way.pushed(cell, letter)
        if pushed is None:
            return None
        cell = pushed[0]
    return symbols_of(cell)


def push_letter(grammar, stand, letter):
    """The stand that comes of pushing the letter onto the stand, None if there is none."""
    ask_stand(grammar, stand)
    if not is_letter(letter):
        raise NotUsable("letter")
    pushed = OneWay(grammar).pushed(stacked(stand, None), letter)
    return None if pushed is None else symbols_of(pushed[0])


def may_end(grammar, stand):
    """Whether all symbols of the stand are nullable names."""
    ask_stand(grammar, stand)
    return OneWay(grammar).may_end(stacked(stand, None))


def ask_stand(grammar, stand):
    """NotUsable("stand") if stand is not a tuple of letters and of useful names."""
    useful = useful_parts(grammar)[0]
    many = len(grammar[0])
    if not isinstance(stand, tuple):
        raise NotUsable("stand")
    if not all([is_letter(symbol) or is_below(symbol, many) and symbol in useful for symbol in stand]):
        raise NotUsable("stand")
