"""Charts: what has been read of which bodies, letter by letter, and what may have to come."""

from stillends.closures import bits
from stillends.columns import Columns
from stillends.dots import OVER


class Chart(Columns):
    """A text that some text of a grammar begins with, for a grammar whose start is useful.

    Where bodies began is told by sets of places, kept as integers, as in closures.
    """

    def __init__(self, dots, tails):
        Columns.__init__(self, dots, tails)

    def _step(self, here, column, letter):
        """Notes in the column what the letter leads to from a place."""
        for dot, begins in self._columns[here].begins.items():
            for longer in self._dots.letters[dot].get(letter, []):
                _note(column, longer, self._dots.heads[dot], begins)
        for name in self._calls(here):
            for longer in self._dots.left_letters[name].get(letter, []):
                _note(column, longer, name, 1 << here)

    def _close(self, column):
        """Notes all that comes of the last letter, as names are finished or are empty."""
        heads = self._dots.heads
        due = [(OVER, name, begins) for name, begins in column.done.items()]
        due.extend([(dot, heads[dot], begins) for dot, begins in column.fresh.items()])
        finished = {}
        while len(due) > 0:
            dot, name, begins = due.pop()
            if dot == OVER:
                fresh = begins & ~finished.get(name, 0)
                finished[name] = finished.get(name, 0) | fresh
                for place in bits(fresh):
                    due.extend(self._behind(column, place, name))
            else:
                fresh = begins & ~column.begins.get(dot, 0)
                if fresh > 0:
                    column.begins[dot] = column.begins.get(dot, 0) | fresh
                    due.extend([(longer, name, fresh) for _, longer in self._dots.skips[dot]])

    def _behind(self, column, place, name):
        """The triples (dot, name, set of places) of what goes on behind a finished name that began at a place."""
        found = []
        for longer, begins in self._columns[place].calls[name].items():
            if longer == OVER:
                column.readings = 1
            else:
                found.append((longer, self._dots.heads[longer], begins))
        return found

    def _found_calls(self, here):
        """For each name that may begin at a place a dict from dots to sets of places: what goes on behind it."""
        dots = self._dots
        calls = {}
        if here == 0:
            calls[dots.start] = {OVER: 1}
        for dot, begins in self._columns[here].begins.items():
            for name, longer in dots.names[dot]:
                if longer != OVER:
                    _merge(calls, name, {longer: begins})
                    continue
                for place in bits(begins):
                    _merge(calls, name, self._columns[place].calls[dots.heads[dot]])
        due = list(calls)
        while len(due) > 0:
            name = due.pop()
            for other, longer in dots.left_names[name]:
                more = dict(calls[name]) if longer == OVER else {longer: 1 << here}
                if _merge(calls, other, more):
                    due.append(other)
        return calls

    def _note_terms(self, here, call, outer, inner, names):
        """Notes the terms of the tail of a name: in inner those that ask for one of the names that begin here, too."""
        for dot, begins in call.items():
            if dot == OVER:
                outer[(OVER, 0)] = 1
                continue
            head = self._dots.heads[dot]
            for place in bits(begins):
                if place == here and head in names:
                    inner[(dot, head)] = 1
                else:
                    outer[(dot, self._columns[place].tails[head])] = 1

    def _note_aims(self, found, dot, name, begins):
        for place in bits(begins):
            found[(dot, self._columns[place].tails[name])] = 1


def _note(column, dot, name, begins):
    """Notes that the last letter led to a dot of the name, in a body that began at any of a set of places."""
    if dot == OVER:
        column.done[name] = column.done.get(name, 0) | begins
    else:
        column.fresh[dot] = column.fresh.get(dot, 0) | begins


def _merge(calls, name, more):
    """Adds to what goes on behind a name; tells whether that is more than before."""
    grown = name not in calls
    known = calls.setdefault(name, {})
    for dot, begins in more.items():
        before = known.get(dot, 0)
        if begins & ~before > 0:
            known[dot] = before | begins
            grown = True
    return grown
