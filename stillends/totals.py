"""How many pairs of digits and trees come behind a row."""

from heapq import heappop, heappush

from stillends.charts import CountChart
from stillends.checks import ask_row, ask_short
from stillends.dots import Dots, OVER, Tails
from stillends.letters import END
from stillends.nulls import ask_no_loop
from stillends.orders import components
from stillends.spellers import LOST, ahead_of, ground_of

# What is to be done when all has come: END has been written, and all later digits are free.
_FREE = ()


def total(task, writer, row, left):
    """How many pairs there are of digits that say a rest that makes the row good, and a tree of what is read then."""
    ask_row(task[1], row)
    ask_short(left, "left")
    return scale_at(task, writer, left, row).total(left)


def scale_at(task, writer, most, row):
    """The scale of a task at a row of any length, which is not checked; Looped if a name is looped."""
    ask_no_loop(task[0])
    scale = Scale(task, writer, most)
    scale.go_to(row)
    return scale


class Scale:
    """A row of a task that can be gone on with and cut, and how many pairs come behind it with tokens left.

    So many tokens may be left as are told when it is made. No useful name of the grammar may be looped.
    """

    def __init__(self, task, writer, most):
        grammar = task[0]
        dots = Dots(grammar)
        tails = Tails(True)
        self._tokens = task[1]
        self._writer = writer
        self._ground = ground_of(task)
        self._ledger = SumLedger(dots, tails, self._ground, writer, most)
        self._chart = CountChart(grammar, dots, tails)
        self._row = []
        begins = dots.start in dots.roots and self._chart.reads(ahead_of(task))
        # Behind each beginning of the row the place, the state of the writer, and how many letters have been read.
        self._spots = [(0 if begins else LOST, 0, self._chart.length())]

    def go_to(self, row):
        """Takes this row in the place of the one that was there."""
        same = 0
        while same < min(len(row), len(self._row)) and row[same] == self._row[same]:
            same += 1
        del self._row[same:]
        del self._spots[same + 1 :]
        self._chart.cut(self._spots[-1][2])
        for token in row[same:]:
            self.write(token)

    def write(self, token):
        """Writes the token behind the row."""
        place, state, _ = self._spots[-1]
        self._row.append(token)
        if place != LOST:
            place = self._ground.led(place, token)
        if place != LOST and not self._chart.reads(self._tokens[token]):
            place = LOST
        self._spots.append((place, self._writer[2][state][token], self._chart.length()))

    def total(self, left):
        """How many pairs there are of digits and a tree, with so many tokens left."""
        place, state, _ = self._spots[-1]
        return 0 if place == LOST else self._total_at(place, state, left)

    def totals(self, left):
        """For each token the total behind the row with it, with so many tokens left behind that."""
        found = [0] * len(self._tokens)
        place = self._spots[-1][0]
        if place != LOST:
            self._look_on(place, left, found)
        return tuple(found)

    def trees(self):
        """How many trees of the grammar have the letters read as their text if the row is good; otherwise 0."""
        return self._chart.trees() if self._spots[-1][0] in self._ground.finals else 0

    def shares(self):
        """The weights of the choices behind the row, that of END last."""
        return self._writer[1][self._spots[-1][1]]

    def _total_at(self, place, state, left):
        point = place * len(self._writer[1]) + state
        aims = self._chart.aims()
        return sum([number * self._ledger.sums(dot, tail, point)[left] for dot, tail, number in aims])

    def _look_on(self, place, left, found):
        """Finds the totals behind each token that can be spelled from here on; tokens that begin alike together."""
        length = self._chart.length()
        nexts = self._writer[2][self._spots[-1][1]]
        for letter, arcs in self._ground.steps[place].items():
            if self._chart.push(letter):
                for there, token in arcs:
                    if token >= 0:
                        found[token] = self._total_at(there, nexts[token], left)
                    else:
                        self._look_on(there, left, found)
                self._chart.cut(length)


class SumLedger:
    """Sums for tokens left, found as they are asked for.

    An entry is a triple (dot, tail, point): from the point on what stands behind the dot has to come, then what
    the tail asks for, and then END, at a final place. Its sums are a list that has for each number of tokens left,
    up to the most, how many tuples of digits, one more than tokens are left, say what comes, times the trees.
    """

    def __init__(self, dots, tails, ground, writer, most):
        self._dots = dots
        self._tails = tails
        self._ground = ground
        self._writer = writer
        self._rows = SumRows(dots, ground, writer, most)
        free = [1]
        while len(free) <= most:
            free.append(free[-1] * writer[0])
        self._sums = {_FREE: free}

    def sums(self, dot, tail, point):
        """The sums of an entry."""
        entry = (dot, tail, point)
        if entry not in self._sums:
            self._find(entry)
        return self._sums[entry]

    def _find(self, entry):
        """Finds the sums of all new entries that this one leads to."""
        leads = {entry: self._leads(entry)}
        due = [entry]
        while len(due) > 0:
            steps, spans = leads[due.pop()]
            for there in [step[0] for step in steps] + [span[0] for span in spans]:
                if there not in self._sums and there not in leads:
                    leads[there] = self._leads(there)
                    due.append(there)
        sequence = _sequence(leads)
        for other in sequence:
            self._sums[other] = []
        for left in range(len(self._sums[_FREE])):
            for other in sequence:
                steps, spans = leads[other]
                shares = [ways * self._sums[there][left - more] for there, more, ways in steps if more <= left]
                for there, ways in spans:
                    # Ways with tokens lead to sums with fewer tokens left, the only ones that are sure to be there.
                    first = 0 if ways[0] > 0 else 1
                    last = min(left, len(ways) - 1)
                    shares.append(_convolved(ways, self._sums[there], first, last, left))
                self._sums[other].append(sum(shares))

    def _leads(self, entry):
        """What the sum of an entry is put together of: a list of steps and a list of spans.

        A step is a triple (entry, number of tokens, number of ways), a span a pair of an entry and a list of
        numbers of ways by numbers of tokens, as far as there are ways.
        """
        dots = self._dots
        dot, tail, point = entry
        steps = []
        spans = []
        if dots.ends[dot]:
            steps.extend([((longer, other, point), 0, ways) for longer, other, ways in self._tails.terms[tail]])
            if tail == 0:
                steps.extend(self._last(point))
        for letter, leads in dots.letters[dot].items():
            for there, more, weight in weighed_arcs(self._ground, self._writer, point, letter):
                steps.extend([((longer, tail, there), more, weight) for longer in leads])
        for name, longer in dots.names[dot]:
            if longer == OVER and name not in dots.inner:
                steps.append(((dots.roots[name], tail, point), 0, 1))
            else:
                ends = self._rows.row_ends(name, point)
                spans.extend([((longer, tail, there), ways) for there, ways in ends.items()])
        return (steps, spans)

    def _last(self, point):
        """What comes of END at a point: at a final place it may be written, in as many ways as it has weight."""
        weights = self._writer[1]
        place, state = divmod(point, len(weights))
        return [(_FREE, 0, weights[state][END])] if place in self._ground.finals else []


def _sequence(leads):
    """The entries, each behind those on which it hangs with as many tokens left: it never hangs on itself so."""
    entries = list(leads)
    numbers = {entry: k for k, entry in enumerate(entries)}
    lone = []
    for entry in entries:
        steps, spans = leads[entry]
        fixed = [there for there, more, _ in steps if more == 0] + [there for there, ways in spans if ways[0] > 0]
        lone.append([numbers[there] for there in fixed if there in numbers])
    return [entries[part[0]] for part in components(lone)]


def _convolved(some, others, first, last, many):
    """The sum of the products of numbers of two lists whose places add up to many, the first one from first to last."""
    behind = others[many - last : many - first + 1]
    return sum([one * other for one, other in zip(some[first : last + 1], behind[::-1])])


class SumRows:
    """For names and points the sums over all that the names derive, as they are asked for.

    A point is the number of a place times the number of the writer's states, and the number of a state. A row is a
    pair of a name and a point. Its ends are a dict from points to lists: for each number of tokens, as far as there
    are any, the sum, over all trees of the name and all ways that read their texts to that point with so many
    tokens, of the products of the weights. A name that comes last in a body may be gone through for the row itself,
    as in PriceRows.
    """

    def __init__(self, dots, ground, writer, most):
        self._dots = dots
        self._ground = ground
        self._writer = writer
        self._most = most
        self._ends = {}
        # What waits for a row, and what a row waits for: for each pair of the row that waits and the dot that it
        # comes to, the list of its sums by number of tokens; and the pairs (row waited for, dot) as a dict of True.
        self._waiting = {}
        self._waits = {}
        # Shares that are not added yet, by number of tokens and distance, as these can only grow; as a heap. Rows
        # that come to a number of tokens are ahead of all shares with it.
        self._batches = {}
        self._queue = []

    def row_ends(self, name, point):
        """The ends of a row."""
        self._begin((name, point))
        while len(self._queue) > 0:
            key = heappop(self._queue)
            batch = self._batches.pop(key)
            for item, share in batch.items():
                if key[1] == 0:
                    self._come_to(item, key[0])
                else:
                    self._go_on(item, share)
        return self._ends[(name, point)]

    def _begin(self, row):
        if row not in self._ends:
            self._ends[row] = {}
            self._waiting[row] = {}
            self._waits[row] = {}
            self._put(row, self._dots.roots[row[0]], row[1], 0, 1)
            self._add((2, 0, 0), row, 1)

    def _add(self, key, item, share):
        """Adds a share of an item to those that are due."""
        if key[0] > self._most:
            return
        if key not in self._batches:
            self._batches[key] = {}
            heappush(self._queue, key)
        batch = self._batches[key]
        batch[item] = batch.get(item, 0) + share

    def _put(self, row, dot, there, many, share):
        """Adds a share to what comes to a dot."""
        if share > 0:
            self._add((many, 1, there - row[1]), (row, dot, there, many), share)

    def _come_to(self, row, many):
        """Adds all that is put together of shares with fewer tokens than so many, but some."""
        self._add((many + 1, 0, 0), row, 1)
        for other, longer in self._waits[row]:
            sums = self._waiting[other][(row, longer)]
            last = min(many, len(sums)) - 1
            for there, ended in self._ends[other].items():
                first = max(1, many - len(ended) + 1)
                if first <= last:
                    self._put(row, longer, there, many, _convolved(sums, ended, first, last, many))

    def _go_on(self, item, share):
        """Adds to all that comes of a share at a dot."""
        row, dot, there, many = item
        dots = self._dots
        if dots.ends[dot]:
            self._end(row, there, many, share)
        for letter, leads in dots.letters[dot].items():
            for led, more, weight in weighed_arcs(self._ground, self._writer, there, letter):
                for longer in leads:
                    self._put(row, longer, led, many + more, share * weight)
        for name, longer in dots.names[dot]:
            if longer == OVER and dots.turns(row[0], name):
                self._put(row, dots.roots[name], there, many, share)
            else:
                self._wait(row, (name, there), longer, many, share)

    def _end(self, row, there, many, share):
        """Adds a share to the ends of a row, and to those that wait for it if it or they have no tokens."""
        ends = self._ends[row]
        _add_at(ends.setdefault(there, []), many, share)
        for (other, longer), sums in self._waiting[row].items():
            for before, waiting in enumerate(sums if many == 0 else sums[:1]):
                self._put(other, longer, there, before + many, waiting * share)

    def _wait(self, row, other, longer, many, share):
        """Has a row wait for another one, and adds to it what is found of that if it or that has no tokens."""
        self._begin(other)
        waiting = self._waiting[other]
        self._waits[row][(other, longer)] = True
        _add_at(waiting.setdefault((row, longer), []), many, share)
        for there, ended in self._ends[other].items():
            for more, ended_so in enumerate(ended if many == 0 else ended[:1]):
                self._put(row, longer, there, many + more, share * ended_so)


def _add_at(sums, many, share):
    """Adds to the sum for a number of tokens, in a list that has no more sums than it needs."""
    while len(sums) <= many:
        sums.append(0)
    sums[many] += share


def weighed_arcs(ground, writer, point, letter):
    """The list of (point, number of tokens finished, weight) of the arcs by a letter from a point."""
    _, weights, nexts = writer
    place, state = divmod(point, len(weights))
    found = []
    for there, token in ground.steps[place].get(letter, []):
        if token < 0:
            found.append((there * len(weights) + state, 0, 1))
        elif weights[state][token] > 0:
            found.append((there * len(weights) + nexts[state][token], 1, weights[state][token]))
    return found
