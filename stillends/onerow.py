"""Whether tokens spell each text of a task in one way only."""

from stillends.respells import rows_that_spell
from stillends.spelledall import shortest_barred


def one_row(task):
    """("one", items) if no text has two good rows; otherwise ("two", text, row, other, table)."""
    text, proof = shortest_barred(task, "one")
    if text is None:
        return ("one", proof)
    row, other = rows_that_spell(task, text).listed(2)
    return ("two", text, row, other, proof)
