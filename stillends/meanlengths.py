"""How many tokens the rows of good pairs have in the mean."""

from stillends.checks import ask_short
from stillends.errors import NoTape
from stillends.ratios import lowest
from stillends.totals import scale_at


def mean_length(task, writer, budget):
    """The mean number of tokens of the rows that the tapes of all good pairs say."""
    ask_short(budget, "budget")
    return mean_at(scale_at(task, writer, budget, ()), writer, budget)


def mean_at(scale, writer, budget):
    """What mean_length tells, by a scale that is at the row ()."""
    tokens = 0
    before = 0
    for many in range(budget + 1):
        # With one digit more each pair of before comes once for each digit; all others have just so many tokens.
        pairs = scale.total(many)
        tokens = tokens * writer[0] + many * (pairs - before * writer[0])
        before = pairs
    if before == 0:
        raise NoTape()
    return lowest(tokens, before)
