"""Positions: where in a body a careless writer stands, and where what is still to come has to end."""

from stillends.bodies import useful_bodies
from stillends.checks import are_below, is_ascending, is_below, is_tuple_of
from stillends.closures import Closure, bits
from stillends.dots import Dots
from stillends.endings import paid_arcs
from stillends.grammars import is_name
from stillends.ledgers import PriceRows
from stillends.spellers import Ground
from stillends.usefulness import useful_parts


class Positions:
    """The positions of a task, quadruples (rule, dot, set, place), and the moves between them.

    Sets of places are integers here, as in closures.
    """

    def __init__(self, task):
        grammar, tokens, book, begun, mode = task
        self._grammar = grammar
        self._ground = Ground(tokens, book, begun, mode)
        self._machine = self._ground.priced()
        self._named = Closure(useful_bodies(grammar), self._machine).named
        self._rows = PriceRows(Dots(grammar), self._machine)
        # For each name the list of its useful rules.
        self._rules_of = [[] for _ in grammar[0]]
        for rule in useful_parts(grammar)[1]:
            self._rules_of[grammar[2][rule][0]].append(rule)
        # For each letter a dict from places to the set of those from which an arc by the letter leads to them.
        self._sources = {}
        arcs = self._machine[1]
        for here, letter, there, _ in arcs:
            sources = self._sources.setdefault(letter, {})
            sources[there] = sources.get(there, 0) | 1 << here
        # The sets from which a rest of a body leads to a set, by the rule, where the rest begins, and the set.
        self._backs = {}

    def firsts(self):
        """The list of the first positions."""
        finals = sum([1 << place for place in self._ground.finals])
        return [(rule, 0, finals, 0) for rule in self._rules_of[self._grammar[1]]]

    def moves_from(self, position):
        """The list of (price, position) of the moves from a position."""
        rule, dot, ends, place = position
        body = self._grammar[2][rule][1]
        if dot == len(body):
            return []
        if not is_name(body[dot]):
            steps = self._ground.steps[place].get(body[dot], [])
            return [(1 if token >= 0 else 0, (rule, dot + 1, ends, there)) for there, token in steps]
        below = self._back(rule, dot + 1, ends)
        found = [(0, (other, 0, below, place)) for other in self._rules_of[body[dot]]]
        for price, places in self._rows.levels(body[dot], place):
            found.extend([(price, (rule, dot + 1, ends, there)) for there in bits(places)])
        return found

    def is_barred(self, position):
        """Whether a token or begun has just been read, and what has to come cannot end in the set."""
        rule, dot, ends, place = position
        body = self._grammar[2][rule][1]
        if dot == 0 or is_name(body[dot - 1]) or not self._ground.is_border(place):
            return False
        return self._back(rule, dot, ends) >> place & 1 == 0

    def _back(self, rule, dot, ends):
        """The set of the places from which the symbols of the body from the dot on lead to a set."""
        body = self._grammar[2][rule][1]
        if dot == len(body):
            return ends
        key = (rule, dot, ends)
        if key not in self._backs:
            self._backs[key] = self._ahead(body[dot], self._back(rule, dot + 1, ends))
        return self._backs[key]

    def _ahead(self, symbol, ends):
        """The set of the places from which a symbol leads to a set."""
        found = 0
        if is_name(symbol):
            for place, named in enumerate(self._named):
                if named.get(symbol, 0) & ends > 0:
                    found |= 1 << place
        else:
            sources = self._sources.get(symbol, {})
            for place in bits(ends):
                found |= sources.get(place, 0)
        return found

    def tokens_between(self, position, other, price):
        """The list of the tokens that are finished by a way of a move, with this price, to the other position."""
        if price == 0:
            return []
        rule, dot, _, place = position
        there = other[3]
        symbol = self._grammar[2][rule][1][dot]
        arcs = [(place, symbol, there)]
        if is_name(symbol):
            arcs = paid_arcs(self._grammar, self._machine, place, symbol, 1 << there, price)
        return [self._token_of(arc) for arc in arcs]

    def _token_of(self, arc):
        here, letter, there = arc
        return dict(self._ground.steps[here][letter])[there]

    def read(self, thing):
        """The position that thing is, as the document writes it; None if it is none."""
        if not is_tuple_of(thing, 4):
            return None
        rule, dot, places, place = thing
        rules = self._grammar[2]
        if not is_below(rule, len(rules)) or rule not in self._rules_of[rules[rule][0]]:
            return None
        if not is_below(dot, len(rules[rule][1]) + 1) or not is_below(place, self._ground.many):
            return None
        if not are_below(places, self._ground.many) or not is_ascending(places):
            return None
        return (rule, dot, sum([1 << one for one in places]), place)


def written(position):
    """The position as the document writes it."""
    rule, dot, ends, place = position
    return (rule, dot, tuple(bits(ends)), place)
