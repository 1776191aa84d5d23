"""Tapes of good pairs, each told once."""

from stillends.pairnumbers import nth_tape


def own_tape(task, writer, budget, k):
    """The tape of good pair number k if its tree is the first one of its text, otherwise None."""
    tape, number = nth_tape(task, writer, budget, k)
    return tape if number == 0 else None
