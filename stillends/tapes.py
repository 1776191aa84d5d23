"""Tapes of digits: what choices they make, and what rows they say."""

from stillends.checks import are_below, ask_below, ask_row, ask_short
from stillends.errors import NotUsable
from stillends.letters import END
from stillends.limits import BUDGET_LIMIT


def choice_of(tokens, writer, state, digit):
    """The choice that the digit makes in the state of the writer."""
    total, weights, _ = writer
    ask_below(state, len(weights), "state")
    ask_below(digit, total, "digit")
    return chosen(weights[state], digit)


def chosen(shares, digit):
    """The choice in whose stretch the digit lies, for the weights of one state."""
    before = 0
    for token in range(len(shares) - 1):
        before += shares[token]
        if digit < before:
            return token
    return END


def says(tokens, writer, tape):
    """The row that the tape says, whether END was chosen, and how many digits were used."""
    if not are_below(tape, writer[0]) or not 1 <= len(tape) <= BUDGET_LIMIT + 1:
        raise NotUsable("tape")
    return said(writer, tape)


def said(writer, tape):
    """What says tells, for a tape of any length, which is not checked."""
    _, weights, nexts = writer
    row = []
    state = 0
    for digit in tape:
        choice = chosen(weights[state], digit)
        if choice == END:
            return (tuple(row), True, len(row) + 1)
        row.append(choice)
        state = nexts[state][choice]
    return (tuple(row), False, len(row))


def tapes_of(tokens, writer, row, budget):
    """How many tapes for the budget say the row and have ended."""
    ask_row(tokens, row)
    ask_short(budget, "budget")
    if len(row) > budget:
        return 0
    total, weights, nexts = writer
    many = 1
    state = 0
    for token in row:
        many *= weights[state][token]
        state = nexts[state][token]
    many *= weights[state][END]
    for _ in range(budget - len(row)):
        many *= total
    return many
