"""Tapes of good pairs, each told once."""

from stillends.pairnumbers import nth_tape


def own_tape(task, writer, budget, k):
    """The tape of good pair number k if its tree is the first one of its text, otherwise None."""
    return own_one(nth_tape(task, writer, budget, k))


def own_one(numbered):
    """The tape, of a pair of a tape and the number of its tree, if this is the first one; otherwise None."""
    tape, number = numbered
    return tape if number == 0 else None
