"""How good pairs are shared out among the choices behind a row."""

from stillends.checks import ask_row, ask_short
from stillends.letters import END
from stillends.totals import scale_at


def step_weights(task, writer, budget, row):
    """Of the good pairs that say a row that begins with row: how many have each token next, and how many say row."""
    ask_short(budget, "budget")
    ask_row(task[1], row)
    return weights_at(scale_at(task, writer, budget, row), writer, budget, row)


def weights_at(scale, writer, budget, row):
    """What step_weights tells, by a scale that is at the row."""
    left = budget - len(row)
    if left < 0:
        return (0,) * len(scale.shares())
    said = _product(writer, row)
    return tuple([said * pairs for pairs in choice_pairs(scale, writer, left)])


def choice_pairs(scale, writer, left):
    """For each choice behind a row, END last, how many pairs begin with any of its digits, with so many tokens left."""
    shares = scale.shares()
    totals = scale.totals(left - 1) if left > 0 else (0,) * (len(shares) - 1)
    pairs = [share * total for share, total in zip(shares, totals)]
    pairs.append(shares[END] * free_pairs(scale, writer, left))
    return pairs


def free_pairs(scale, writer, left):
    """How many pairs there are behind a digit of END, with so many tokens left: all digits, with all trees."""
    many = scale.trees()
    for _ in range(left):
        many *= writer[0]
    return many


def row_pairs(task, writer, budget, row):
    """How many good pairs say the row."""
    ask_short(budget, "budget")
    ask_row(task[1], row)
    return pairs_at(scale_at(task, writer, budget, row), writer, budget, row)


def pairs_at(scale, writer, budget, row):
    """What row_pairs tells, by a scale that is at the row."""
    left = budget - len(row)
    return 0 if left < 0 else _product(writer, row) * scale.shares()[END] * free_pairs(scale, writer, left)


def _product(writer, row):
    """The product of the weights of the tokens of a row."""
    product = 1
    state = 0
    for token in row:
        product *= writer[1][state][token]
        state = writer[2][state][token]
    return product
