"""Weights: tuples of numbers, not all 0."""

from stillends.errors import InvalidPaper
from stillends.letters import is_number


def lets_weights(thing):
    """How many numbers thing has if it is weights; otherwise InvalidPaper for the first fault."""
    if not isinstance(thing, tuple) or len(thing) == 0:
        raise InvalidPaper("shape", -1)
    for k, number in enumerate(thing):
        if not is_number(number):
            raise InvalidPaper("number", k)
    if sum(thing) == 0:
        raise InvalidPaper("sum", -1)
    return len(thing)
