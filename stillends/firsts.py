"""First letters: those with which the texts of names and of bodies begin."""

from stillends.grammars import is_name
from stillends.nulls import nullable_names
from stillends.usefulness import useful_parts


def first_letters(grammar):
    """For each name its first letters, ascending; () for a useless name."""
    return tuple([tuple(sorted(letters)) for letters in Firsts(grammar).of_names])


class Firsts:
    """The first letters of the useful names and of their rules, kept as dicts of True."""

    def __init__(self, grammar):
        names, _, rules = grammar
        self.nullable = {name: True for name in nullable_names(grammar)}
        self.of_names = [{} for _ in names]
        useful = useful_parts(grammar)[1]
        grown = True
        while grown:
            grown = False
            for rule in useful:
                head, body = rules[rule]
                before = len(self.of_names[head])
                self.of_names[head].update(self.of_body(body))
                grown = grown or len(self.of_names[head]) > before

    def of_body(self, symbols):
        """The first letters of symbols, all of whose names are useful."""
        found = {}
        for symbol in symbols:
            if not is_name(symbol):
                found[symbol] = True
                return found
            found.update(self.of_names[symbol])
            if symbol not in self.nullable:
                return found
        return found

    def can_be_empty(self, symbols):
        """Whether all symbols are nullable names."""
        return all([is_name(symbol) and symbol in self.nullable for symbol in symbols])
