"""Predicts of rules, and whether they tell the rules of each name apart."""

from stillends.errors import NotOneWay
from stillends.firsts import Firsts
from stillends.follows import follow_sets
from stillends.usefulness import useful_parts


def predicts(grammar):
    """For each rule its predict, ascending; () for a useless rule."""
    return tuple([tuple(sorted(signs)) for signs in _predict_sets(grammar)])


def _predict_sets(grammar):
    """For each rule its predict, as a dict of True."""
    firsts = Firsts(grammar)
    follows = follow_sets(grammar, firsts)
    found = [{} for _ in grammar[2]]
    for rule in useful_parts(grammar)[1]:
        head, body = grammar[2][rule]
        found[rule].update(firsts.of_body(body))
        if firsts.can_be_empty(body):
            found[rule].update(follows[head])
    return found


def first_clash(grammar):
    """The first (name, rule, other, letter) with a letter in the predicts of two rules of a name; None if none is."""
    owners = {}
    for rule, signs in enumerate(_predict_sets(grammar)):
        for sign in signs:
            owners.setdefault((grammar[2][rule][0], sign), []).append(rule)
    clashes = [(name, found[0], found[1], sign) for (name, sign), found in owners.items() if len(found) > 1]
    return min(clashes, default=None)


def reads_one_way(grammar):
    """Whether no two rules of a name have a common element in their predicts."""
    return first_clash(grammar) is None


def ask_one_way(grammar):
    """NotOneWay if the grammar does not read one way."""
    clash = first_clash(grammar)
    if clash is not None:
        name, rule, other, letter = clash
        raise NotOneWay(name, rule, other, letter)
