"""How many trees a text has."""

from stillends.bodies import useful_bodies
from stillends.checks import ask_text
from stillends.closures import Closure, bits, text_machine
from stillends.grammars import is_name
from stillends.nulls import ask_no_loop, nullable_names


def count_trees(grammar, text):
    """How many trees of the grammar have the text."""
    ask_text(text)
    ask_no_loop(grammar)
    return Forest(grammar, text).total()


class Forest:
    """All trees of a grammar without looped names that have one text, and the numbers of their parts.

    An item is a part of the bodies with two places in the text, between which its letters are.
    Only the items are counted that are in a tree of the grammar with the whole text.
    """

    def __init__(self, grammar, text):
        self.bodies = useful_bodies(grammar)
        self.closure = Closure(self.bodies, text_machine(text, ()))
        # For each place in the text a dict from names to the set of those places where they begin that end in it.
        self._begins = [{} for _ in range(len(text) + 1)]
        for here, ends in enumerate(self.closure.named):
            for name in ends:
                self._note_begins(here, name, bits(ends[name]))
        # For each place where items begin a dict from parts to the set of the places where they end.
        self._wanted = [{} for _ in range(len(text) + 1)]
        # For each place a dict from parts to dicts that have the number for each place where they end.
        self._numbers = [{} for _ in range(len(text) + 1)]
        self._start = self.bodies.part_of(grammar[1])
        if self.closure.named[0].get(grammar[1], 0) >> len(text) & 1:
            self._find_wanted(len(text))
            self._find_numbers(nullable_names(grammar))

    def _note_begins(self, here, name, ends):
        for there in ends:
            begins = self._begins[there]
            begins[name] = begins.get(name, 0) | 1 << here

    def total(self):
        """How many trees of the grammar have the text."""
        return self.number(0, self._start, len(self._numbers) - 1)

    def number(self, here, part, there):
        """In how many ways the part derives what stands between; 0 if that is in no tree with the whole text."""
        return self._numbers[here].get(part, {}).get(there, 0)

    def _find_wanted(self, length):
        """Goes down from the whole text to all items that are in trees with it."""
        due = [(0, self._start, 1 << length)]
        while len(due) > 0:
            here, part, ends = due.pop()
            known = self._wanted[here].get(part, 0)
            fresh = ends & ~known
            if fresh > 0:
                self._wanted[here][part] = known | fresh
                due.extend(self._wants(here, part, fresh))

    def _wants(self, here, part, ends):
        """The triples (from, part, set of ends) of the items next below those of a part with these ends."""
        bodies = self.bodies
        reached = self.closure.reached[here]
        if part >= bodies.many:
            return [(here, whole, ends & reached.get(whole, 0)) for _, whole in bodies.wholes[part - bodies.many]]
        last = bodies.lasts[part]
        before = bodies.befores[part]
        if part == 0:
            return []
        if not is_name(last):
            return [(here, before, ends >> 1)]
        stops = 0
        below = []
        for stop in bits(reached[before]):
            got = ends & self.closure.named[stop].get(last, 0)
            if got > 0:
                stops |= 1 << stop
                below.append((stop, bodies.part_of(last), got))
        below.append((here, before, stops))
        return below

    def _find_numbers(self, nullable):
        """Counts for all wanted items, each behind those that it is put together of."""
        ranks = self.bodies.ranks(nullable)
        for here in range(len(self._wanted) - 1, -1, -1):
            wanted = self._wanted[here]
            numbers = {part: {} for part in wanted}
            self._numbers[here] = numbers
            items = [(there, ranks[part], part) for part in wanted for there in bits(wanted[part])]
            for there, _, part in sorted(items):
                numbers[part][there] = self._sum(here, part, there)

    def _sum(self, here, part, there):
        """The number of an item, from those of the items next below it."""
        bodies = self.bodies
        if part >= bodies.many:
            return sum([self.number(here, whole, there) for _, whole in bodies.wholes[part - bodies.many]])
        if part == 0:
            return 1
        last = bodies.lasts[part]
        ways = self._numbers[here][bodies.befores[part]]
        if not is_name(last):
            return ways[there - 1]
        named = bodies.part_of(last)
        stops = self.closure.reached[here][bodies.befores[part]] & self._begins[there].get(last, 0)
        return sum([ways[stop] * self._numbers[stop][named][there] for stop in bits(stops)])
