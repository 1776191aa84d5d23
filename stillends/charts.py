"""Charts: what has been read of which bodies, letter by letter, and what may have to come."""

from heapq import heappop, heappush

from stillends.closures import bits
from stillends.dots import Blanks, OVER


class Column:
    """What has been read of which bodies up to one place in a text."""

    def __init__(self):
        # For each dot where its body began; first for the dots to which the last letter itself led, and for the
        # names that it finished. How that is told is up to the chart.
        self.fresh = {}
        self.done = {}
        self.begins = {}
        # How many trees of the grammar have all that has been read as their text; just 1 if that does not count.
        self.readings = 0
        # For each name that may begin here what goes on behind it, and the tail that comes of it; None as long as
        # they have not been asked for.
        self.calls = None
        self.tails = None


class Columns:
    """A text that may be gone on with and cut, and that some text of a grammar begins with.

    A chart is such a text. A name that comes last in a body goes on, behind itself, with what goes on behind that
    body: so names that end together are ended at once, and need not be noted one by one.
    """

    def __init__(self, dots, tails):
        self._dots = dots
        self._tails = tails
        self._columns = [Column()]
        self._sealed = 0

    def length(self):
        """How many letters have been read."""
        return len(self._columns) - 1

    def cut(self, many):
        """Goes back to the first so many letters."""
        del self._columns[many + 1 :]
        self._sealed = min(self._sealed, many + 1)

    def reads(self, text):
        """Reads a text, or nothing of it if no text of the grammar goes on with it; tells whether one does."""
        before = self.length()
        for letter in text:
            if not self.push(letter):
                self.cut(before)
                return False
        return True

    def push(self, letter):
        """Reads a letter if some text of the grammar goes on with it; tells whether one does."""
        column = Column()
        self._step(self.length(), column, letter)
        if len(column.fresh) + len(column.done) == 0:
            return False
        self._close(column)
        self._columns.append(column)
        return True

    def _calls(self, here):
        """For each name that may begin at a place what goes on behind it; OVER if the whole text may end with it."""
        column = self._columns[here]
        if column.calls is None:
            column.calls = self._found_calls(here)
        return column.calls

    def openings(self):
        """The ascending list of the places in the text where some name may begin."""
        return [here for here in range(self.length() + 1) if len(self._calls(here)) > 0]

    def is_whole(self):
        """Whether what has been read is a text of the grammar."""
        return self._columns[-1].readings > 0 if self.length() > 0 else self._dots.start in self._dots.nullable

    def aims(self):
        """The list of triples (dot, tail, number): what may have to come, and in how many ways.

        That is what stands behind the dot, and then what the tail asks for.
        """
        last = self.length()
        if last == 0:
            return [(self._dots.roots[self._dots.start], 0, 1)]
        for here in range(self._sealed, last):
            self._find_tails(here)
        self._sealed = max(self._sealed, last)
        column = self._columns[last]
        found = {}
        for dot, begins in column.fresh.items():
            self._note_aims(found, dot, self._dots.heads[dot], begins)
        for name, begins in column.done.items():
            self._note_aims(found, OVER, name, begins)
        return [(dot, tail, number) for (dot, tail), number in found.items()]

    def _find_tails(self, here):
        """Finds the tails of the names that may begin at a place; those at places ahead of it are found."""
        calls = self._calls(here)
        column = self._columns[here]
        column.tails = {}
        for part in self._dots.left_parts:
            names = [name for name in part if name in calls]
            if len(names) > 0:
                outer = {name: {} for name in names}
                inner = {name: {} for name in names}
                for name in names:
                    self._note_terms(here, calls[name], outer[name], inner[name], outer)
                column.tails.update(self._tails.for_names(outer, inner))


class Chart(Columns):
    """A text that some text of a grammar begins with, for a grammar whose start is useful.

    Where bodies began is told by sets of places, kept as integers, as in closures.
    """

    def __init__(self, dots, tails):
        Columns.__init__(self, dots, tails)

    def _step(self, here, column, letter):
        """Notes in the column what the letter leads to from a place."""
        for dot, begins in self._columns[here].begins.items():
            for longer in self._dots.letters[dot].get(letter, []):
                _note_set(column, longer, self._dots.heads[dot], begins)
        for name in self._calls(here):
            for longer in self._dots.left_letters[name].get(letter, []):
                _note_set(column, longer, name, 1 << here)

    def _close(self, column):
        """Notes all that comes of the last letter, as names are finished or are empty."""
        heads = self._dots.heads
        due = [(OVER, name, begins) for name, begins in column.done.items()]
        due.extend([(dot, heads[dot], begins) for dot, begins in column.fresh.items()])
        finished = {}
        while len(due) > 0:
            dot, name, begins = due.pop()
            if dot == OVER:
                fresh = begins & ~finished.get(name, 0)
                finished[name] = finished.get(name, 0) | fresh
                for place in bits(fresh):
                    due.extend(self._behind(column, place, name))
            else:
                fresh = begins & ~column.begins.get(dot, 0)
                if fresh > 0:
                    column.begins[dot] = column.begins.get(dot, 0) | fresh
                    due.extend([(longer, name, fresh) for _, longer in self._dots.skips[dot]])

    def _behind(self, column, place, name):
        """The triples (dot, name, set of places) of what goes on behind a finished name that began at a place."""
        found = []
        for longer, begins in self._columns[place].calls[name].items():
            if longer == OVER:
                column.readings = 1
            else:
                found.append((longer, self._dots.heads[longer], begins))
        return found

    def _found_calls(self, here):
        """For each name that may begin at a place a dict from dots to sets of places: what goes on behind it."""
        dots = self._dots
        calls = {}
        if here == 0:
            calls[dots.start] = {OVER: 1}
        for dot, begins in self._columns[here].begins.items():
            for name, longer in dots.names[dot]:
                if longer != OVER:
                    _merge(calls, name, {longer: begins})
                    continue
                for place in bits(begins):
                    _merge(calls, name, self._columns[place].calls[dots.heads[dot]])
        due = list(calls)
        while len(due) > 0:
            name = due.pop()
            for other, longer in dots.left_names[name]:
                more = dict(calls[name]) if longer == OVER else {longer: 1 << here}
                if _merge(calls, other, more):
                    due.append(other)
        return calls

    def _note_terms(self, here, call, outer, inner, names):
        """Notes the terms of the tail of a name: in inner those that ask for one of the names that begin here, too."""
        for dot, begins in call.items():
            if dot == OVER:
                outer[(OVER, 0)] = 1
                continue
            head = self._dots.heads[dot]
            for place in bits(begins):
                if place == here and head in names:
                    inner[(dot, head)] = 1
                else:
                    outer[(dot, self._columns[place].tails[head])] = 1

    def _note_aims(self, found, dot, name, begins):
        for place in bits(begins):
            found[(dot, self._columns[place].tails[name])] = 1


def _note_set(column, dot, name, begins):
    """Notes that the last letter led to a dot of the name, in a body that began at any of a set of places."""
    if dot == OVER:
        column.done[name] = column.done.get(name, 0) | begins
    else:
        column.fresh[dot] = column.fresh.get(dot, 0) | begins


def _merge(calls, name, more):
    """Adds to what goes on behind a name; tells whether that is more than before."""
    grown = name not in calls
    known = calls.setdefault(name, {})
    for dot, begins in more.items():
        before = known.get(dot, 0)
        if begins & ~before > 0:
            known[dot] = before | begins
            grown = True
    return grown


class CountChart(Columns):
    """A text that some text of a grammar begins with, for one whose start is useful and without looped names.

    Where bodies began is told by dicts from places to numbers of ways.
    """

    def __init__(self, grammar, dots, tails):
        Columns.__init__(self, dots, tails)
        self._blanks = Blanks(grammar, dots)

    def trees(self):
        """How many trees of the grammar have what has been read as their text."""
        return self._columns[-1].readings if self.length() > 0 else self._blanks.empties.get(self._dots.start, 0)

    def _step(self, here, column, letter):
        """Notes in the column what the letter leads to from a place."""
        for dot, begins in self._columns[here].begins.items():
            for longer in self._dots.letters[dot].get(letter, []):
                for begin, number in begins.items():
                    _note_ways(column, longer, self._dots.heads[dot], begin, number)
        for name in self._calls(here):
            for dot, number in self._blanks.zeros[name].items():
                for longer in self._dots.letters[dot].get(letter, []):
                    _note_ways(column, longer, name, here, number)

    def _close(self, column):
        """Notes all that comes of the last letter: what began last first, as all else hangs on it."""
        due = Due()
        for name, begins in column.done.items():
            for begin, number in begins.items():
                due.put(begin, OVER, name, number)
        for dot, begins in column.fresh.items():
            for begin, number in begins.items():
                due.put(begin, dot, self._dots.heads[dot], number)
        while due.is_left():
            begin, batch = due.take()
            for (dot, name), number in batch.items():
                if dot == OVER:
                    self._finish(column, due, begin, name, number)
                else:
                    begins = column.begins.setdefault(dot, {})
                    begins[begin] = begins.get(begin, 0) + number
                    for empty, longer in self._dots.skips[dot]:
                        due.put(begin, longer, name, number * self._blanks.empties[empty])

    def _finish(self, column, due, begin, name, number):
        """Notes what comes of a name that began at a place and is finished in so many ways."""
        for (longer, place), ways in self._columns[begin].calls[name].items():
            if longer == OVER:
                column.readings += number * ways
            else:
                due.put(place, longer, self._dots.heads[longer], number * ways)

    def _found_calls(self, here):
        """For each name that may begin at a place a dict from pairs (dot, place) to numbers: what goes on behind it."""
        dots = self._dots
        calls = {}
        if here == 0:
            calls[dots.start] = {(OVER, 0): 1}
        for dot, begins in self._columns[here].begins.items():
            for name, longer in dots.names[dot]:
                for begin, number in begins.items():
                    if longer == OVER:
                        _add(calls, name, self._columns[begin].calls[dots.heads[dot]], number)
                    else:
                        _add(calls, name, {(longer, begin): 1}, number)
        self._call_lefts(here, calls)
        return calls

    def _call_lefts(self, here, calls):
        """Adds what goes on behind names that come first in others that may begin at the same place."""
        blanks = self._blanks
        names = blanks.called(calls)
        for name in names:
            for other, longer, number in blanks.lefts[name]:
                if longer != OVER:
                    _add(calls, other, {(longer, here): 1}, number)
        # What goes on behind a name goes on behind those that come first and last in it, once it is told in full.
        for name in [name for name in blanks.order if name in names]:
            for other, longer, number in blanks.lefts[name]:
                if longer == OVER:
                    _add(calls, other, dict(calls[name]), number)

    def _note_terms(self, here, call, outer, inner, names):
        """Notes the terms of the tail of a name: in inner those that ask for one of the names that begin here, too."""
        for (dot, place), number in call.items():
            head = self._dots.heads[dot]
            if dot != OVER and place == here and head in names:
                inner[(dot, head)] = number
            else:
                pair = (dot, 0 if dot == OVER else self._columns[place].tails[head])
                outer[pair] = outer.get(pair, 0) + number

    def _note_aims(self, found, dot, name, begins):
        for begin, number in begins.items():
            pair = (dot, self._columns[begin].tails[name])
            found[pair] = found.get(pair, 0) + number


class Due:
    """What is still to be noted, by the places where it began; what began last is taken first."""

    def __init__(self):
        self._batches = {}
        self._queue = []

    def is_left(self):
        """Whether something is still to be noted."""
        return len(self._queue) > 0

    def put(self, begin, dot, name, number):
        """Adds so many ways for a dot of a name, in a body that began at a place."""
        if begin not in self._batches:
            self._batches[begin] = {}
            heappush(self._queue, -begin)
        batch = self._batches[begin]
        batch[(dot, name)] = batch.get((dot, name), 0) + number

    def take(self):
        """The last place where something began, and for that a dict of numbers by pairs of a dot and a name."""
        begin = -heappop(self._queue)
        return (begin, self._batches.pop(begin))


def _note_ways(column, dot, name, begin, number):
    """Notes that the last letter led to a dot of the name, in a body that began at a place, in so many ways."""
    begins = column.done.setdefault(name, {}) if dot == OVER else column.fresh.setdefault(dot, {})
    begins[begin] = begins.get(begin, 0) + number


def _add(calls, name, more, number):
    """Adds so many times what goes on behind something to what goes on behind a name."""
    known = calls.setdefault(name, {})
    for pair, ways in more.items():
        known[pair] = known.get(pair, 0) + number * ways
