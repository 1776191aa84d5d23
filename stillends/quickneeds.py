"""The needs of rows, by stands."""

from stillends.checks import ask_row
from stillends.leads import Lead


def quick_need(task, row):
    """The need of the row, None if it is lost."""
    ask_row(task[1], row)
    lead = Lead(task)
    return lead.need(lead.at_row(row))


def quick_needs(task, row):
    """The needs of the row with one more token, token by token."""
    ask_row(task[1], row)
    lead = Lead(task)
    return lead.needs(lead.at_row(row))
