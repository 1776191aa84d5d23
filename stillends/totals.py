"""How many pairs of digits and trees come behind a row."""

from heapq import heappop, heappush

from stillends.charts import CountChart
from stillends.checks import ask_row, ask_short
from stillends.dots import Dots, OVER, Tails
from stillends.letters import END
from stillends.nulls import ask_no_loop
from stillends.orders import components
from stillends.spellers import LOST, ahead_of, ground_of

# What is to be done when all has come: END has been written, and all later digits are free.
_FREE = ()


def total(task, writer, row, left):
    """How many pairs there are of digits that say a rest that makes the row good, and a tree of what is read then."""
    ask_row(task[1], row)
    ask_short(left, "left")
    return scale_at(task, writer, left, row).total(left)


def scale_at(task, writer, most, row):
    """The scale of a task at a row of any length, which is not checked; Looped if a name is looped."""
    ask_no_loop(task[0])
    scale = Scale(task, writer, most)
    for token in row:
        scale.write(token)
    return scale


class Scale:
    """A row of a task that can be gone on with, and how many pairs come behind it with up to so many tokens left.

    No useful name of the grammar may be looped.
    """

    def __init__(self, task, writer, most):
        grammar = task[0]
        dots = Dots(grammar)
        tails = Tails(True)
        self._tokens = task[1]
        self._writer = writer
        self._ground = ground_of(task)
        self._ledger = SumLedger(dots, tails, self._ground, writer, most)
        self._chart = CountChart(grammar, dots, tails)
        self._state = 0
        begins = dots.start in dots.roots and self._chart.reads(ahead_of(task))
        self._place = 0 if begins else LOST

    def write(self, token):
        """Writes the token behind the row."""
        if self._place != LOST:
            self._place = self._ground.led(self._place, token)
        if self._place != LOST and not self._chart.reads(self._tokens[token]):
            self._place = LOST
        self._state = self._writer[2][self._state][token]

    def total(self, left):
        """How many pairs there are of digits and a tree, with so many tokens left."""
        return 0 if self._place == LOST else self._total_at(self._place, self._state, left)

    def totals(self, left):
        """For each token the total behind the row with it, with so many tokens left behind that."""
        found = [0] * len(self._tokens)
        if self._place != LOST:
            self._look_on(self._place, left, found)
        return tuple(found)

    def trees(self):
        """How many trees of the grammar have the letters read as their text if the row is good; otherwise 0."""
        return self._chart.trees() if self._place in self._ground.finals else 0

    def shares(self):
        """The weights of the choices behind the row, that of END last."""
        return self._writer[1][self._state]

    def _total_at(self, place, state, left):
        point = place * len(self._writer[1]) + state
        aims = self._chart.aims()
        return sum([number * self._ledger.sums(dot, tail, point)[left] for dot, tail, number in aims])

    def _look_on(self, place, left, found):
        """Finds the totals behind each token that can be spelled from here on; tokens that begin alike together."""
        length = self._chart.length()
        for letter, arcs in self._ground.steps[place].items():
            if self._chart.push(letter):
                for there, token in arcs:
                    if token >= 0:
                        found[token] = self._total_at(there, self._writer[2][self._state][token], left)
                    else:
                        self._look_on(there, left, found)
                self._chart.cut(length)


class SumLedger:
    """Sums for tokens left, found as they are asked for.

    An entry is a triple (dot, tail, point): from the point on what stands behind the dot has to come, then what
    the tail asks for, and then END, at a final place. Its sums are a list that has for each number of tokens left,
    up to the most, how many tuples of digits, one more than tokens are left, say what comes, times the trees.
    """

    def __init__(self, dots, tails, ground, writer, most):
        self._dots = dots
        self._tails = tails
        self._ground = ground
        self._writer = writer
        self._rows = SumRows(dots, ground, writer, most)
        free = [1]
        while len(free) <= most:
            free.append(free[-1] * writer[0])
        self._sums = {_FREE: free}

    def sums(self, dot, tail, point):
        """The sums of an entry."""
        entry = (dot, tail, point)
        if entry not in self._sums:
            self._find(entry)
        return self._sums[entry]

    def _find(self, entry):
        """Finds the sums of all new entries that this one leads to."""
        leads = {entry: self._leads(entry)}
        due = [entry]
        while len(due) > 0:
            here = due.pop()
            for there, _, _ in list(leads[here]):
                if there not in self._sums and there not in leads:
                    leads[there] = self._leads(there)
                    due.append(there)
        sequence = _sequence(leads)
        for other in sequence:
            self._sums[other] = []
        for left in range(len(self._sums[_FREE])):
            for other in sequence:
                shares = [ways * self._sums[there][left - more] for there, more, ways in leads[other] if more <= left]
                self._sums[other].append(sum(shares))

    def _leads(self, entry):
        """The list of (entry, number of tokens, number of ways): its sum is put together of these."""
        dots = self._dots
        dot, tail, point = entry
        found = []
        if dots.ends[dot]:
            found.extend([((longer, other, point), 0, ways) for longer, other, ways in self._tails.terms[tail]])
            if tail == 0:
                found.extend(self._last(point))
        for letter, leads in dots.letters[dot].items():
            for there, more, weight in weighed_arcs(self._ground, self._writer, point, letter):
                found.extend([((longer, tail, there), more, weight) for longer in leads])
        for name, longer in dots.names[dot]:
            if longer == OVER:
                found.append(((dots.roots[name], tail, point), 0, 1))
            else:
                ends = self._rows.row_ends(name, point)
                found.extend([((longer, tail, there), many, ways) for (there, many), ways in ends.items()])
        return found

    def _last(self, point):
        """What comes of END at a point: at a final place it may be written, in as many ways as it has weight."""
        weights = self._writer[1]
        place, state = divmod(point, len(weights))
        return [(_FREE, 0, weights[state][END])] if place in self._ground.finals else []


def _sequence(leads):
    """The entries, each behind those on which it hangs with as many tokens left: it never hangs on itself so."""
    entries = list(leads)
    numbers = {entry: k for k, entry in enumerate(entries)}
    lone = []
    for entry in entries:
        lone.append([numbers[there] for there, more, _ in leads[entry] if more == 0 and there in numbers])
    return [entries[part[0]] for part in components(lone)]


class SumRows:
    """For names and points the sums over all that the names derive, as they are asked for.

    A point is the number of a place times the number of the writer's states, and the number of a state. A row is a
    pair of a name and a point. Its ends are a dict from pairs of a point and a number of tokens to the sum, over
    all trees of the name and all ways that read their texts to that point with so many tokens, of the products of
    the weights. What comes last in a body may be gone through for the row itself, as in PriceRows.
    """

    def __init__(self, dots, ground, writer, most):
        self._dots = dots
        self._ground = ground
        self._writer = writer
        self._most = most
        self._ends = {}
        # What waits for a row: a dict from (row, dot, number of tokens) to the sum so far.
        self._waiting = {}
        # Shares that are not added yet, by number of tokens and distance, as these can only grow; as a heap.
        self._batches = {}
        self._queue = []

    def row_ends(self, name, point):
        """The ends of a row."""
        self._begin((name, point))
        while len(self._queue) > 0:
            batch = self._batches.pop(heappop(self._queue))
            for (row, dot, there, many), share in batch.items():
                self._go_on(row, dot, there, many, share)
        return self._ends[(name, point)]

    def _begin(self, row):
        if row not in self._ends:
            self._ends[row] = {}
            self._waiting[row] = {}
            self._put(row, self._dots.roots[row[0]], row[1], 0, 1)

    def _put(self, row, dot, there, many, share):
        """Adds a share to what comes to a dot."""
        if share == 0 or many > self._most:
            return
        key = (many, there - row[1])
        if key not in self._batches:
            self._batches[key] = {}
            heappush(self._queue, key)
        batch = self._batches[key]
        item = (row, dot, there, many)
        batch[item] = batch.get(item, 0) + share

    def _go_on(self, row, dot, there, many, share):
        """Adds to all that comes of a share at a dot."""
        dots = self._dots
        if dots.ends[dot]:
            self._end(row, there, many, share)
        for letter, leads in dots.letters[dot].items():
            for led, more, weight in weighed_arcs(self._ground, self._writer, there, letter):
                for longer in leads:
                    self._put(row, longer, led, many + more, share * weight)
        for name, longer in dots.names[dot]:
            if longer == OVER and dots.turns(dot, name):
                self._put(row, dots.roots[name], there, many, share)
            else:
                self._wait(row, (name, there), longer, many, share)

    def _end(self, row, there, many, share):
        ends = self._ends[row]
        ends[(there, many)] = ends.get((there, many), 0) + share
        for (other, longer, before), waiting in self._waiting[row].items():
            self._put(other, longer, there, before + many, waiting * share)

    def _wait(self, row, other, longer, many, share):
        """Goes on with where another row leads, now and as soon as more is found of it."""
        self._begin(other)
        waiting = self._waiting[other]
        waiting[(row, longer, many)] = waiting.get((row, longer, many), 0) + share
        for (there, more), ended in self._ends[other].items():
            self._put(row, longer, there, many + more, share * ended)


def weighed_arcs(ground, writer, point, letter):
    """The list of (point, number of tokens finished, weight) of the arcs by a letter from a point."""
    _, weights, nexts = writer
    place, state = divmod(point, len(weights))
    found = []
    for there, token in ground.steps[place].get(letter, []):
        if token < 0:
            found.append((there * len(weights) + state, 0, 1))
        elif weights[state][token] > 0:
            found.append((there * len(weights) + nexts[state][token], 1, weights[state][token]))
    return found
