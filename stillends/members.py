"""Texts of a grammar, their beginnings, and what the names derive within a text."""

from stillends.bodies import all_bodies, useful_bodies
from stillends.checks import ask_text
from stillends.closures import Closure, letters_of, text_machine


def in_grammar(grammar, text):
    """Whether the text is one of the grammar."""
    ask_text(text)
    return is_derived(grammar, text)


def is_derived(grammar, text):
    """What in_grammar tells, for a text of any length, which is not checked."""
    return _has_way(grammar, text, ())


def begins(grammar, text):
    """Whether some text of the grammar begins with the text."""
    ask_text(text)
    return _has_way(grammar, text, letters_of(grammar))


def _has_way(grammar, text, more):
    """Whether the start derives the text, with any of the letters of more behind it."""
    bodies = useful_bodies(grammar)
    closure = Closure(bodies, text_machine(text, more))
    return closure.named[0].get(grammar[1], 0) >> len(text) == 1


def spans_of(grammar, text):
    """All triples (from, name, to) such that the name derives the letters of the text between the two."""
    ask_text(text)
    bodies = all_bodies(grammar)
    return tuple(Closure(bodies, text_machine(text, ())).items_told())
