"""How many pairs of digits and trees come behind a row."""

from stillends.checks import ask_row, ask_short
from stillends.scales import scale_at


def total(task, writer, row, left):
    """How many pairs there are of digits that say a rest that makes the row good, and a tree of what is read then."""
    ask_row(task[1], row)
    ask_short(left, "left")
    return scale_at(task, writer, left, row).total(left)
