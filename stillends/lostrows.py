"""Lost rows to which a careless writer can come."""

from stillends.checks import ask_short
from stillends.needing import Outlook


def lost_within(task, most):
    """The first lost careless row of at most so many tokens, by length; None if there is none."""
    ask_short(most, "most")
    outlook = Outlook(task)
    if outlook.need() is None:
        return ()
    rows = [()]
    for _ in range(most):
        longer = []
        for row in rows:
            outlook.go_to(row)
            needs = outlook.needs()
            for token in outlook.begun_by():
                if needs[token] is None:
                    return row + (token,)
                longer.append(row + (token,))
        rows = longer
    return None
