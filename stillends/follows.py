"""Follows: the letters that stand right behind names, and the empty string where a name stands last."""

from stillends.firsts import Firsts
from stillends.grammars import is_name
from stillends.usefulness import useful_parts


def follow_letters(grammar):
    """For each name its follow, ascending; () for a useless name."""
    return tuple([tuple(sorted(signs)) for signs in follow_sets(grammar, Firsts(grammar))])


def follow_sets(grammar, firsts):
    """For each name its follow, as a dict of True."""
    names, start, rules = grammar
    useful_names, useful_rules = useful_parts(grammar)
    found = [{} for _ in names]
    if start in useful_names:
        found[start][""] = True
    # For each name the heads whose follow it has, too: it can stand last in their bodies.
    passed = [[] for _ in names]
    for rule in useful_rules:
        head, body = rules[rule]
        for k, symbol in enumerate(body):
            if is_name(symbol):
                found[symbol].update(firsts.of_body(body[k + 1 :]))
                if firsts.can_be_empty(body[k + 1 :]):
                    passed[symbol].append(head)
    _pass_on(found, passed)
    return found


def _pass_on(found, passed):
    """Gives each name what the names that pass on theirs to it have, until nothing is new."""
    grown = True
    while grown:
        grown = False
        for name, heads in enumerate(passed):
            before = len(found[name])
            for head in heads:
                found[name].update(dict(found[head]))
            grown = grown or len(found[name]) > before
