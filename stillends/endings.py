"""Endings of rows, with trees."""

from stillends.chains import linked
from stillends.checks import ask_row
from stillends.errors import TooMuch
from stillends.grounds import ground_of
from stillends.limits import ROW_LIMIT
from stillends.outlooks import outlook_at
from stillends.tasks import letters_behind
from stillends.tightways import tight_way
from stillends.treetexts import letters_of_tree


def ending(task, row):
    """An ending of the row with the fewest tokens, then letters, then rules, and a tree; None if it is lost."""
    ask_row(task[1], row)
    outlook = outlook_at(task, row)
    need = outlook.need()
    if need is None:
        return None
    if need > ROW_LIMIT:
        raise TooMuch("row")
    grammar = task[0]
    ground = ground_of(task)
    text = letters_behind(task, row)
    machine, first = linked(ground.priced(), outlook.spot(), text)
    goals = sum([1 << final for final in ground.finals])
    tree, states = tight_way(grammar, machine, first, goals)
    letters = letters_of_tree(grammar, tree)
    return (_tokens_of(ground, letters[len(text) :], states[len(text) :]), tree)


def _tokens_of(ground, letters, places):
    """The tokens finished by the way through these places that reads these letters."""
    spelled = {(here, letter, there): token for here, letter, there, token in ground.arcs}
    steps = [(places[k], letter, places[k + 1]) for k, letter in enumerate(letters)]
    return tuple([spelled[step] for step in steps if spelled[step] >= 0])
