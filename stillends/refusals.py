"""Why a row is refused: tables of floors that show that it cannot be ended."""

from stillends.chains import linked
from stillends.checks import ask_row, ask_short
from stillends.floors import cut_table, floor_holds
from stillends.meets import prices
from stillends.needing import outlook_at
from stillends.spellers import border_behind, priced, speller
from stillends.tasks import letters_behind


def why_not(task, row, left):
    """A table that shows that the row has no ending of at most left tokens; None if it has one."""
    _ask(task, row, left)
    number = outlook_at(task, row).need()
    if number is not None and number <= left:
        return None
    proof = _proof(task, row)
    if proof is None:
        return ()
    machine = proof[0]
    return cut_table(prices(task[0], machine), left + 1)


def judge_why_not(task, row, left, table):
    """Whether the table shows that the row has no ending of at most left tokens."""
    _ask(task, row, left)
    proof = _proof(task, row)
    if proof is None:
        return isinstance(table, tuple) and len(table) == 0
    machine, first, finals = proof
    grammar = task[0]
    if not floor_holds(grammar, machine, table):
        return False
    goals = {(first, grammar[1], final): True for final in finals}
    return all([row[:3] not in goals or row[3] > left for row in table])


def _ask(task, row, left):
    ask_row(task[1], row)
    ask_short(left, "left")


def _proof(task, row):
    """The chained machine for a row, the state where it begins, and the finals; None if there is no place behind it."""
    _, tokens, book, begun, mode = task
    place = border_behind(tokens, book, begun, mode, row)
    if place is None:
        return None
    places, finals, _ = speller(tokens, book, begun, mode)
    text = letters_behind(task, row)
    machine, first = linked(priced(tokens, book, begun, mode), places.index(place), text)
    return (machine, first, finals)
