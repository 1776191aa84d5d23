"""Books: what rows they run through, and what rows they take."""

from stillends.checks import are_below, ask_row, is_ascending, is_count, is_tuple_of
from stillends.errors import InvalidPaper
from stillends.letters import is_int


def lets_book(tokens, thing):
    """How many states there are if thing is a book for the tokens; otherwise InvalidPaper for the first fault."""
    if not is_tuple_of(thing, 3):
        raise InvalidPaper("shape", -1)
    count, finals, table = thing
    if not is_count(count) or not isinstance(finals, tuple) or not isinstance(table, tuple):
        raise InvalidPaper("shape", -1)
    if not are_below(finals, count) or not is_ascending(finals):
        raise InvalidPaper("finals", -1)
    if len(table) != count:
        raise InvalidPaper("table", -1)
    for state, row in enumerate(table):
        if not is_tuple_of(row, len(tokens)) or not all([_is_lead(lead, count) for lead in row]):
            raise InvalidPaper("row", state)
    return count


def _is_lead(thing, count):
    return is_int(thing) and -1 <= thing < count


def runs(tokens, book, row):
    """The state in which the book ends, -1 if it does not run through the row."""
    ask_row(tokens, row)
    return state_after(book, row)


def state_after(book, row):
    """What runs tells, for a row of any length, which is not checked."""
    table = book[2]
    state = 0
    for token in row:
        state = table[state][token]
        if state < 0:
            return -1
    return state


def takes(tokens, book, row):
    """Whether the book takes the row."""
    return runs(tokens, book, row) in book[1]


def free_book(tokens):
    """The book with one state that takes all rows."""
    return (1, (0,), ((0,) * len(tokens),))
