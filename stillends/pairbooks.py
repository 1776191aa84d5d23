"""Books that keep some tokens from standing behind others."""

from stillends.checks import are_below
from stillends.errors import NotUsable
from stillends.leastbooks import least_book


def pairs_book(tokens, pairs):
    """The least book that takes just the rows in which no token and the next one are one of the pairs."""
    if not _are_pairs(pairs, len(tokens)):
        raise NotUsable("pairs")
    barred = {pair: True for pair in pairs}
    # State 0 stands for the empty row, state t + 1 for the rows that end with token t.
    table = [[token + 1 for token in range(len(tokens))]]
    for token in range(len(tokens)):
        table.append([-1 if (token, other) in barred else other + 1 for other in range(len(tokens))])
    return least_book(table)


def _are_pairs(thing, many):
    if not isinstance(thing, tuple):
        return False
    return all([are_below(pair, many) and len(pair) == 2 for pair in thing])
