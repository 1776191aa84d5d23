"""How far the shares of rows in cut runs are from their shares of the good pairs."""

from stillends.checks import ask_short
from stillends.cutweights import cut_choices
from stillends.errors import NoTape
from stillends.letters import END
from stillends.needing import Outlook
from stillends.ratios import apart, lowest, plus, times
from stillends.stepweights import pairs_at
from stillends.totals import scale_at


def distance(task, writer, budget):
    """Half of the sum of what all rows' shares differ by, and of the share of cut runs that never end."""
    ask_short(budget, "budget")
    scale = scale_at(task, writer, budget, ())
    pairs = scale.total(budget)
    if pairs == 0:
        raise NoTape()
    outlook = Outlook(task)
    found = (0, 1)
    # Rows with the state of the writer and the share of the cut runs that come to them.
    due = [((), 0, (1, 1))]
    while len(due) > 0:
        row, state, share = due.pop()
        outlook.go_to(row)
        choices = cut_choices(outlook, writer, state, budget - len(row))
        if len(choices) == 0:
            found = plus(found, share)
        weight = sum(choices.values())
        for choice, many in choices.items():
            if choice == END:
                scale.go_to(row)
                own = lowest(pairs_at(scale, writer, budget, row), pairs)
                found = plus(found, apart(times(share, many, weight), own))
            else:
                due.append((row + (choice,), writer[2][state][choice], times(share, many, weight)))
    return times(found, 1, 2)
