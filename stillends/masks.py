"""Masks of rows: which tokens may be written, and whether the row may end."""

from stillends.checks import ask_row, ask_short
from stillends.needing import outlook_at


def mask(task, row, left):
    """The mask of the row with so many tokens left."""
    ask_row(task[1], row)
    ask_short(left, "left")
    return mask_of(outlook_at(task, row), left)


def mask_of(outlook, left):
    """The mask of a row, of which the outlook tells the needs, with so many tokens left."""
    return (fitting_tokens(outlook.needs(), left), outlook.is_good())


def fitting_tokens(needs, left):
    """The tokens, ascending, behind which these needs can be met with so many tokens left ahead of them."""
    return tuple([token for token, need in enumerate(needs) if need is not None and need < left])


def settled(task, row):
    """With how many tokens left the mask of the row is as with all greater numbers."""
    ask_row(task[1], row)
    numbers = [need for need in outlook_at(task, row).needs() if need is not None]
    return 1 + max(numbers) if len(numbers) > 0 else 0
