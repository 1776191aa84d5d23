"""Trees, as tuples of rules in the sequence in which they are read."""

from stillends.checks import ask_below, is_below
from stillends.errors import InvalidPaper, NotUsable
from stillends.grammars import names_in


def lets_tree(grammar, thing):
    """The name whose tree thing is; otherwise InvalidPaper for the first fault."""
    fault = _first_fault(grammar, thing)
    if fault is not None:
        word, at = fault
        raise InvalidPaper(word, at)
    return grammar[2][thing[0]][0]


def _first_fault(grammar, thing):
    """A pair of what keeps thing from being a tree and its place, None if it is a tree."""
    rules = grammar[2]
    if not isinstance(thing, tuple) or len(thing) == 0:
        return ("shape", -1)
    # The names that are due, the next one last.
    due = []
    for k, rule in enumerate(thing):
        if not is_below(rule, len(rules)):
            return ("rule", k)
        head, body = rules[rule]
        if k > 0:
            if len(due) == 0:
                return ("rest", k)
            if due.pop() != head:
                return ("rule", k)
        due.extend(names_in(body)[::-1])
    return None if len(due) == 0 else ("end", len(thing))


def name_of_tree(grammar, thing):
    """The name whose tree thing is, None if it is no tree."""
    return None if _first_fault(grammar, thing) is not None else grammar[2][thing[0]][0]


def ask_tree(grammar, tree):
    """NotUsable("tree") if tree is not a tree of some name."""
    if name_of_tree(grammar, tree) is None:
        raise NotUsable("tree")


def kids(grammar, tree):
    """The trees of the names in the body of the first rule of the tree."""
    ask_tree(grammar, tree)
    rules = grammar[2]
    parts = []
    at = 1
    while at < len(tree):
        begin = at
        due = 1
        while due > 0:
            due += len(names_in(rules[tree[at]][1])) - 1
            at += 1
        parts.append(tree[begin:at])
    return tuple(parts)


def grafted(grammar, rule, kids):
    """The tree with this first rule and these trees below it."""
    ask_below(rule, len(grammar[2]), "rule")
    if not _are_kids(grammar, grammar[2][rule][1], kids):
        raise NotUsable("kids")
    tree = [rule]
    for kid in kids:
        tree.extend(kid)
    return tuple(tree)


def _are_kids(grammar, body, thing):
    return isinstance(thing, tuple) and [name_of_tree(grammar, kid) for kid in thing] == names_in(body)


def is_of_grammar(grammar, thing):
    """Whether thing is a tree of the grammar: one of its start."""
    return name_of_tree(grammar, thing) == grammar[1]
