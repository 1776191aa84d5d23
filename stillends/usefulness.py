"""Useful names and rules, and least trees."""

from stillends.checks import ask_below
from stillends.errors import TooMuch
from stillends.grammars import is_name, names_in
from stillends.limits import TREE_LIMIT


def useful_parts(grammar):
    """The useful names and the useful rules, both ascending."""
    names, start, rules = grammar
    sizes = least_sizes(grammar)[0]
    if sizes[start] is None:
        return ((), ())
    # Only rules all of whose names have trees can be in a tree.
    bodies = [names_in(body) for _, body in rules]
    fit = [all([sizes[part] is not None for part in body]) for body in bodies]
    useful = {start: True}
    due = [start]
    while len(due) > 0:
        name = due.pop()
        for rule in range(len(rules)):
            if rules[rule][0] == name and fit[rule]:
                due.extend(_new_ones(bodies[rule], useful))
    used = [k for k in range(len(rules)) if fit[k] and rules[k][0] in useful]
    return (tuple(sorted(useful)), tuple(used))


def _new_ones(names, known):
    """The names that are not yet known, each once; they are known from now on."""
    fresh = []
    for name in names:
        if name not in known:
            known[name] = True
            fresh.append(name)
    return fresh


def least_tree(grammar, name):
    """A tree of the name with the fewest letters, and of these with the fewest rules; None if it has no tree."""
    ask_below(name, len(grammar[0]), "name")
    sizes, firsts = least_sizes(grammar)
    if sizes[name] is None:
        return None
    if sizes[name][1] > TREE_LIMIT:
        raise TooMuch("tree")
    return tree_of_firsts(grammar, name, firsts)


def tree_of_firsts(grammar, name, firsts):
    """The tree of the name that has everywhere the first rule told for a name."""
    rules = grammar[2]
    tree = []
    due = [name]
    while len(due) > 0:
        rule = firsts[due.pop()]
        tree.append(rule)
        due.extend(names_in(rules[rule][1])[::-1])
    return tuple(tree)


def least_sizes(grammar):
    """Two lists, with for each name the size of its least trees and the first rule of one; None if it has no tree.

    A size is a pair: how many letters, how many rules. A tree below another one has a lesser size,
    so trees that are put together of these first rules come to an end.
    """
    names, _, rules = grammar
    sizes = [None] * len(names)
    firsts = [None] * len(names)
    changed = True
    while changed:
        changed = False
        for rule, (head, body) in enumerate(rules):
            size = _size_of(body, sizes)
            if size is not None and (sizes[head] is None or size < sizes[head]):
                sizes[head] = size
                firsts[head] = rule
                changed = True
    return (sizes, firsts)


def _size_of(body, sizes):
    """The size of a tree with this body at its root and least trees below it, None if a name has none."""
    letters = 0
    rules = 1
    for symbol in body:
        if not is_name(symbol):
            letters += 1
        elif sizes[symbol] is None:
            return None
        else:
            letters += sizes[symbol][0]
            rules += sizes[symbol][1]
    return (letters, rules)
