"""The book with the fewest states for a table all of whose states are final."""

from stillends.errors import TooMuch
from stillends.limits import BOOK_LIMIT


def least_book(table):
    """The least book that runs through the same rows as the table, numbered as its states are first met.

    The table is a list of lists of states, -1 for none; it begins in state 0, which leads to all others.
    TooMuch("book") if the book would have too many states.
    """
    classes = _classes_of(table)
    met = _first_met(table, classes)
    numbers = {classes[state]: k for k, state in enumerate(met)}
    rows = [tuple([numbers[classes[lead]] if lead >= 0 else -1 for lead in table[state]]) for state in met]
    return (len(met), tuple(range(len(met))), tuple(rows))


def _classes_of(table):
    """The class of each state, equal for states from which the same rows can be run through."""
    classes = [0] * len(table)
    many = 1
    while True:
        classes = _parted(table, classes)
        before = many
        many = max(classes) + 1
        # States once parted stay parted, so the classes never become fewer.
        if many > BOOK_LIMIT:
            raise TooMuch("book")
        if many == before:
            return classes


def _parted(table, classes):
    """The classes parted by those to which one token leads."""
    numbers = {}
    parted = []
    for state, row in enumerate(table):
        mark = (classes[state], tuple([classes[lead] if lead >= 0 else -1 for lead in row]))
        parted.append(numbers.setdefault(mark, len(numbers)))
    return parted


def _first_met(table, classes):
    """One state of each class, in the sequence in which the classes are first met."""
    met = [0]
    known = {classes[0]: True}
    at = 0
    while at < len(met):
        row = table[met[at]]
        for lead in row:
            if lead >= 0 and classes[lead] not in known:
                known[classes[lead]] = True
                met.append(lead)
        at += 1
    return met
