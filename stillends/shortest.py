"""Shortest texts of a grammar, and of those that a machine takes."""

from stillends.checks import are_below, ask_below
from stillends.errors import NotUsable
from stillends.leastways import ask_size, least_way_to
from stillends.treetexts import tree_text
from stillends.usefulness import least_sizes, tree_of_firsts


def shortest_text(grammar):
    """A text of the grammar with the fewest letters, and of these with the fewest rules in a tree, and this tree."""
    start = grammar[1]
    sizes, firsts = least_sizes(grammar)
    if sizes[start] is None:
        return None
    ask_size(sizes[start][0], sizes[start][1])
    return _with_text(grammar, tree_of_firsts(grammar, start, firsts))


def shortest_taken(grammar, machine, state, finals):
    """The text and the tree of a way, from the state to any of the finals, that has the least three of all."""
    ask_below(state, machine[0], "state")
    if not are_below(finals, machine[0]):
        raise NotUsable("finals")
    goals = 0
    for final in finals:
        goals |= 1 << final
    way = least_way_to(grammar, machine, state, grammar[1], goals)
    return None if way is None else _with_text(grammar, way[0])


def _with_text(grammar, tree):
    return (tree_text(grammar, tree), tree)
