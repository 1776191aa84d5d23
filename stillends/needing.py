"""The needs of rows: how many tokens it takes at least to end them."""

from stillends.checks import ask_row
from stillends.outlooks import outlook_at


def need(task, row):
    """The least number of tokens of an ending of the row, None if it is lost."""
    ask_row(task[1], row)
    return outlook_at(task, row).need()


def needs(task, row):
    """The needs of the row with one more token, token by token."""
    ask_row(task[1], row)
    return outlook_at(task, row).needs()
