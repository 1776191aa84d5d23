"""Grammars: names, and rules with their bodies of names and letters."""

from stillends.checks import is_below, is_tuple_of
from stillends.errors import InvalidPaper
from stillends.letters import is_letter, is_word

BODY_LIMIT = 12


def lets_grammar(thing):
    """How many rules there are if thing is a grammar; otherwise InvalidPaper for the first fault."""
    if not is_tuple_of(thing, 3):
        raise InvalidPaper("shape", -1)
    names, start, rules = thing
    if not isinstance(names, tuple) or not isinstance(rules, tuple) or len(names) == 0:
        raise InvalidPaper("shape", -1)
    _ask_names(names)
    if not is_below(start, len(names)):
        raise InvalidPaper("start", -1)
    _ask_rules(rules, len(names))
    return len(rules)


def _ask_names(names):
    before = set()
    for k, name in enumerate(names):
        if not is_word(name):
            raise InvalidPaper("name", k)
        if name in before:
            raise InvalidPaper("twice", k)
        before.add(name)


def _ask_rules(rules, many):
    before = set()
    least = 0
    for k, rule in enumerate(rules):
        if not is_tuple_of(rule, 2) or not is_below(rule[0], many) or not isinstance(rule[1], tuple):
            raise InvalidPaper("rule", k)
        if rule[0] < least:
            raise InvalidPaper("order", k)
        if not _is_body(rule[1], many):
            raise InvalidPaper("body", k)
        if rule in before:
            raise InvalidPaper("again", k)
        before.add(rule)
        least = rule[0]


def _is_body(symbols, many):
    if len(symbols) > BODY_LIMIT:
        return False
    return all([is_below(symbol, many) or is_letter(symbol) for symbol in symbols])


def is_name(symbol):
    """Whether a symbol of a grammar's body is a name: all others are letters."""
    return isinstance(symbol, int)


def names_in(body):
    """The list of the names in a body, in sequence."""
    return [symbol for symbol in body if is_name(symbol)]
