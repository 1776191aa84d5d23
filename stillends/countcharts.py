"""Charts that tell in how many ways what has been read can be read."""

from heapq import heappop, heappush

from stillends.blanks import Blanks
from stillends.columns import Columns
from stillends.dots import OVER


class CountChart(Columns):
    """A text that some text of a grammar begins with, for one whose start is useful and without looped names.

    Where bodies began is told by dicts from places to numbers of ways.
    """

    def __init__(self, grammar, dots, tails):
        Columns.__init__(self, dots, tails)
        self._blanks = Blanks(grammar, dots)

    def trees(self):
        """How many trees of the grammar have what has been read as their text."""
        return self._columns[-1].readings if self.length() > 0 else self._blanks.empties.get(self._dots.start, 0)

    def _step(self, here, column, letter):
        """Notes in the column what the letter leads to from a place."""
        for dot, begins in self._columns[here].begins.items():
            for longer in self._dots.letters[dot].get(letter, []):
                for begin, number in begins.items():
                    _note(column, longer, self._dots.heads[dot], begin, number)
        for name in self._calls(here):
            for dot, number in self._blanks.zeros[name].items():
                for longer in self._dots.letters[dot].get(letter, []):
                    _note(column, longer, name, here, number)

    def _close(self, column):
        """Notes all that comes of the last letter: what began last first, as all else hangs on it."""
        due = Due()
        for name, begins in column.done.items():
            for begin, number in begins.items():
                due.put(begin, OVER, name, number)
        for dot, begins in column.fresh.items():
            for begin, number in begins.items():
                due.put(begin, dot, self._dots.heads[dot], number)
        while due.is_left():
            begin, batch = due.take()
            for (dot, name), number in batch.items():
                if dot == OVER:
                    self._finish(column, due, begin, name, number)
                else:
                    begins = column.begins.setdefault(dot, {})
                    begins[begin] = begins.get(begin, 0) + number
                    for empty, longer in self._dots.skips[dot]:
                        due.put(begin, longer, name, number * self._blanks.empties[empty])

    def _finish(self, column, due, begin, name, number):
        """Notes what comes of a name that began at a place and is finished in so many ways."""
        for (longer, place), ways in self._columns[begin].calls[name].items():
            if longer == OVER:
                column.readings += number * ways
            else:
                due.put(place, longer, self._dots.heads[longer], number * ways)

    def _found_calls(self, here):
        """For each name that may begin at a place a dict from pairs (dot, place) to numbers: what goes on behind it."""
        dots = self._dots
        calls = {}
        if here == 0:
            calls[dots.start] = {(OVER, 0): 1}
        for dot, begins in self._columns[here].begins.items():
            for name, longer in dots.names[dot]:
                for begin, number in begins.items():
                    if longer == OVER:
                        _add(calls, name, self._columns[begin].calls[dots.heads[dot]], number)
                    else:
                        _add(calls, name, {(longer, begin): 1}, number)
        self._call_lefts(here, calls)
        return calls

    def _call_lefts(self, here, calls):
        """Adds what goes on behind names that come first in others that may begin at the same place."""
        blanks = self._blanks
        names = blanks.called(calls)
        for name in names:
            for other, longer, number in blanks.lefts[name]:
                if longer != OVER:
                    _add(calls, other, {(longer, here): 1}, number)
        # What goes on behind a name goes on behind those that come first and last in it, once it is told in full.
        for name in [name for name in blanks.order if name in names]:
            for other, longer, number in blanks.lefts[name]:
                if longer == OVER:
                    _add(calls, other, dict(calls[name]), number)

    def _note_terms(self, here, call, outer, inner, names):
        """Notes the terms of the tail of a name: in inner those that ask for one of the names that begin here, too."""
        for (dot, place), number in call.items():
            head = self._dots.heads[dot]
            if dot != OVER and place == here and head in names:
                inner[(dot, head)] = number
            else:
                pair = (dot, 0 if dot == OVER else self._columns[place].tails[head])
                outer[pair] = outer.get(pair, 0) + number

    def _note_aims(self, found, dot, name, begins):
        for begin, number in begins.items():
            pair = (dot, self._columns[begin].tails[name])
            found[pair] = found.get(pair, 0) + number


class Due:
    """What is still to be noted, by the places where it began; what began last is taken first."""

    def __init__(self):
        self._batches = {}
        self._queue = []

    def is_left(self):
        """Whether something is still to be noted."""
        return len(self._queue) > 0

    def put(self, begin, dot, name, number):
        """Adds so many ways for a dot of a name, in a body that began at a place."""
        if begin not in self._batches:
            self._batches[begin] = {}
            heappush(self._queue, -begin)
        batch = self._batches[begin]
        batch[(dot, name)] = batch.get((dot, name), 0) + number

    def take(self):
        """The last place where something began, and for that a dict of numbers by pairs of a dot and a name."""
        begin = -heappop(self._queue)
        return (begin, self._batches.pop(begin))


def _note(column, dot, name, begin, number):
    """Notes that the last letter led to a dot of the name, in a body that began at a place, in so many ways."""
    begins = column.done.setdefault(name, {}) if dot == OVER else column.fresh.setdefault(dot, {})
    begins[begin] = begins.get(begin, 0) + number


def _add(calls, name, more, number):
    """Adds so many times what goes on behind something to what goes on behind a name."""
    known = calls.setdefault(name, {})
    for pair, ways in more.items():
        known[pair] = known.get(pair, 0) + number * ways
