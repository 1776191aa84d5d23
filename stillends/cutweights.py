"""Cut runs: a writer whose weights are cut down to the mask."""

from stillends.checks import ask_row, ask_short
from stillends.errors import NoTape
from stillends.letters import END
from stillends.masks import mask_of
from stillends.needing import Outlook
from stillends.ratios import times
from stillends.stepweights import free_pairs
from stillends.totals import scale_at


def cut_share(task, writer, budget, row):
    """The share of the row in cut runs."""
    ask_short(budget, "budget")
    ask_row(task[1], row)
    outlook = Outlook(task)
    state = 0
    share = (1, 1)
    for at in range(len(row) + 1):
        choices = cut_choices(outlook, writer, state, budget - at)
        choice = row[at] if at < len(row) else END
        if choice not in choices:
            return (0, 1)
        share = times(share, choices[choice], sum(choices.values()))
        if choice != END:
            outlook.write(choice)
            state = writer[2][state][choice]
    return share


def cut_choices(outlook, writer, state, left):
    """The cut choices behind the row of an outlook, with so many tokens left: a dict to their weights, END last."""
    weights = writer[1][state]
    fitting, may_end = mask_of(outlook, left)
    choices = {token: weights[token] for token in fitting if weights[token] > 0}
    if may_end and weights[END] > 0:
        choices[END] = weights[END]
    return choices


def cut_same(task, writer, budget):
    """("same",) if cut runs have the shares of the good pairs; otherwise ("unlike", row) with the first row."""
    ask_short(budget, "budget")
    scale = scale_at(task, writer, budget, ())
    if scale.total(budget) == 0:
        raise NoTape()
    outlook = Outlook(task)
    rows = [((), 0)]
    while len(rows) > 0:
        longer = []
        for row, state in rows:
            outlook.go_to(row)
            scale.go_to(row)
            left = budget - len(row)
            choices = cut_choices(outlook, writer, state, left)
            if not _are_alike(choices, scale, writer, left):
                return ("unlike", row)
            tokens = [choice for choice in choices if choice != END]
            longer.extend([(row + (token,), writer[2][state][token]) for token in tokens])
        rows = longer
    return ("same",)


def _are_alike(choices, scale, writer, left):
    """Whether each digit of the choices behind a row has equally many good pairs."""
    totals = scale.totals(left - 1) if left > 0 else ()
    numbers = {free_pairs(scale, writer, left) if choice == END else totals[choice] for choice in choices}
    return len(numbers) < 2
