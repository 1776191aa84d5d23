"""Writers: weights for the choices, state by state."""

from stillends.checks import are_below, ask_row, is_count, is_tuple_of
from stillends.errors import InvalidPaper
from stillends.letters import is_number


def lets_writer(tokens, thing):
    """How many states there are if thing is a writer for the tokens; otherwise InvalidPaper for the first fault."""
    if not is_tuple_of(thing, 3):
        raise InvalidPaper("shape", -1)
    total, weights, nexts = thing
    if not is_count(total) or not isinstance(weights, tuple) or not isinstance(nexts, tuple) or len(weights) == 0:
        raise InvalidPaper("shape", -1)
    if len(nexts) != len(weights):
        raise InvalidPaper("nexts", -1)
    for state, (shares, leads) in enumerate(zip(weights, nexts)):
        if not _are_shares(shares, len(tokens) + 1, total):
            raise InvalidPaper("weights", state)
        if not is_tuple_of(leads, len(tokens)) or not are_below(leads, len(weights)):
            raise InvalidPaper("next", state)
    return len(weights)


def _are_shares(thing, many, total):
    return is_tuple_of(thing, many) and all([is_number(share) for share in thing]) and sum(thing) == total


def even_writer(tokens):
    """The writer with one state that gives each choice the weight 1."""
    many = len(tokens)
    return (many + 1, ((1,) * (many + 1),), ((0,) * many,))


def state_behind(tokens, writer, row):
    """The state of the writer behind the row."""
    ask_row(tokens, row)
    return led_to(writer, 0, row)


def led_to(writer, state, row):
    """The state to which a row of any length, which is not checked, leads the writer from a state."""
    nexts = writer[2]
    for token in row:
        state = nexts[state][token]
    return state
