"""Sums over all that a name derives along the ways of a task, weighed by a writer."""

from heapq import heappop, heappush

from stillends.bodies import useful_bodies
from stillends.checks import ask_short
from stillends.nulls import ask_no_loop, nullable_names
from stillends.spellers import speller


def inside(task, writer, most):
    """All (p, a, name, q, b, k, sum) with a sum above 0, ascending."""
    ask_short(most, "most")
    grammar = task[0]
    ask_no_loop(grammar)
    sums = Sums(task, writer, most)
    told = []
    for here, name, there, many, total in sums.found:
        place, state = here
        told.append((place, state, name) + there + (many, total))
    return tuple(sorted(told))


class Sums:
    """The sums of all items, found in a sequence in which each comes behind those that it is put together of.

    A point is a pair of a place and a state of the writer. Arcs that finish no token lead to places
    with greater numbers and leave the writer alone. So an item with as many tokens as one that it is put
    together of has a longer step from its first place to its last one, or else derives it with all else empty.
    """

    def __init__(self, task, writer, most):
        grammar, tokens, book, begun, mode = task
        self._bodies = useful_bodies(grammar)
        self._writer = writer
        self._most = most
        self._ranks = self._bodies.ranks(nullable_names(grammar))
        places, _, arcs = speller(tokens, book, begun, mode)
        # For each place and letter the list of (place, token) of the arcs from it.
        self._steps = [{} for _ in places]
        for here, letter, there, token in arcs:
            self._steps[here].setdefault(letter, []).append((there, token))
        # All (point, name, point, number of tokens, sum), by the sequence in which they are found.
        self.found = []
        # Sums so far, by their keys, which tell the sequence.
        self._sums = {}
        self._queue = []
        # What waits for a name, by the point where it is to begin and the longer beginning; and what has come of names.
        self._waiting = {}
        self._named = {}
        for place in range(len(places)):
            for state in range(len(writer[1])):
                self._put(((place, state), 0, (place, state), 0), 1)
        while len(self._queue) > 0:
            self._find_next()

    def _put(self, item, share):
        """Adds a share to the sum of an item."""
        here, part, there, many = item
        if share == 0 or many > self._most:
            return
        key = (many, there[0] - here[0], self._ranks[part], here, part, there)
        if key not in self._sums:
            self._sums[key] = 0
            heappush(self._queue, key)
        self._sums[key] += share

    def _find_next(self):
        key = heappop(self._queue)
        many, _, _, here, part, there = key
        total = self._sums.pop(key)
        if part >= self._bodies.many:
            self.found.append((here, part - self._bodies.many, there, many, total))
            self._pass_on(here, part - self._bodies.many, (there, many, total))
        else:
            self._go_on(here, part, there, many, total)

    def _go_on(self, here, beginning, there, many, total):
        """Adds to all that comes of a beginning with its sum."""
        bodies = self._bodies
        for name in bodies.ends[beginning]:
            self._put((here, bodies.part_of(name), there, many), total)
        place, state = there
        for letter, longer in bodies.by_letter[beginning]:
            for led, token in self._steps[place].get(letter, []):
                if token < 0:
                    self._put((here, longer, (led, state), many), total)
                else:
                    point = (led, self._writer[2][state][token])
                    self._put((here, longer, point, many + 1), total * self._writer[1][state][token])
        for name, longer in bodies.by_name[beginning]:
            self._waiting.setdefault((there, longer), []).append((here, many, total))
            for end, more, other in self._named.get((there, name), []):
                self._put((here, longer, end, many + more), total * other)

    def _pass_on(self, here, name, ended):
        """Adds to all that waits for a name; ended tells where it ends, with how many tokens and with what sum."""
        there, many, total = ended
        self._named.setdefault((here, name), []).append(ended)
        for longer in self._bodies.uses[name]:
            for begin, more, other in self._waiting.get((here, longer), []):
                self._put((begin, longer, there, many + more), total * other)
