"""How much of what a draft proposes is kept in the mean."""

from stillends.checks import ask_short
from stillends.couples import kept_of
from stillends.errors import NoTape
from stillends.ratios import lowest
from stillends.stepweights import weights_at
from stillends.totals import scale_at


def mean_kept(task, writer, budget, draft):
    """The mean, over all good pairs, of the sum of the shares kept at all beginnings of the pair's row."""
    ask_short(budget, "budget")
    scale = scale_at(task, writer, budget, ())
    pairs = scale.total(budget)
    if pairs == 0:
        raise NoTape()
    # A row is a beginning for as many pairs as its target has in all, so these cancel out of its share.
    numbers = 0
    due = [((), 0)]
    while len(due) > 0:
        row, state = due.pop()
        scale.go_to(row)
        target = weights_at(scale, writer, budget, row)
        numbers += kept_of(target, draft[1][state])
        going_on = [token for token, many in enumerate(target[:-1]) if many > 0]
        due.extend([(row + (token,), draft[2][state][token]) for token in going_on[::-1]])
    return lowest(numbers, pairs * draft[0])
