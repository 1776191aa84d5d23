"""What rules are sure to be read behind a row."""

from stillends.checks import ask_row, ask_short
from stillends.errors import TooMuch
from stillends.grammars import is_name
from stillends.limits import TREE_LIMIT
from stillends.quickneeds import Lead
from stillends.suretexts import ask_ending, led_on, spots_behind


def sure_rules(task, row, left):
    """The longest tuple of rules with which all trees of endings of at most left tokens go on, behind those read."""
    ask_row(task[1], row)
    ask_short(left, "left")
    lead = Lead(task)
    return rules_ahead(lead, lead.at_row(row), left)


def rules_ahead(lead, stance, left):
    """What sure_rules tells, for the row of a stance."""
    ask_ending(lead, stance, left)
    rules = []
    cell = stance.cell
    # The places where an ending may have come to, with the fewest tokens finished on the way.
    spots = {stance.place: 0}
    while cell is not None:
        if not is_name(cell.top):
            spots = spots_behind(lead, cell.below, led_on(lead, spots, cell.top), left)
            cell = cell.below
            continue
        fitting = [pair for pair in lead.rule_cells(cell) if len(spots_behind(lead, pair[1], spots, left)) > 0]
        if len(fitting) > 1:
            break
        rules.append(fitting[0][0])
        cell = fitting[0][1]
        if len(rules) > TREE_LIMIT:
            raise TooMuch("tree")
    return tuple(rules)
