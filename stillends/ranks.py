"""Grammars that read one way: what leads on to what, and how large empty trees are."""

from stillends.dots import Dots
from stillends.predicting import ask_one_way
from stillends.stands import OneWay


def left_ranks(grammar):
    """For each name the most steps in a chain of names each of which leads on to the next; None for a useless one."""
    ask_one_way(grammar)
    dots = Dots(grammar)
    ranks = [None] * len(grammar[0])
    # No name leads on to itself, so each part is one name, and here it stands behind all that it leads on to.
    for part in dots.left_parts[::-1]:
        name = part[0]
        ranks[name] = max([1 + ranks[other] for other, _ in dots.left_names[name]], default=0)
    return tuple(ranks)


def empty_sizes(grammar):
    """For each name how many rules its only empty tree has; None for a useless name or one that is not nullable."""
    sizes = OneWay(grammar).sizes
    return tuple([sizes.get(name) for name in range(len(grammar[0]))])
