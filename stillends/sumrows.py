"""Where the names lead from a point, with how many tokens, and with what sum."""

from heapq import heappop, heappush

from stillends.dots import OVER


class SumRows:
    """For names and points the sums over all that the names derive, as they are asked for.

    A point is the number of a place times the number of the writer's states, and the number of a state. A row is a
    pair of a name and a point. Its ends are a dict from pairs of a point and a number of tokens to the sum, over
    all trees of the name and all ways that read their texts to that point with so many tokens, of the products of
    the weights. What comes last in a body may be gone through for the row itself, as in PriceRows.
    """

    def __init__(self, dots, ground, writer, most):
        self._dots = dots
        self._ground = ground
        self._writer = writer
        self._most = most
        self._ends = {}
        # What waits for a row: a dict from (row, dot, number of tokens) to the sum so far.
        self._waiting = {}
        # Shares that are not added yet, by number of tokens and distance, as these can only grow; as a heap.
        self._batches = {}
        self._queue = []

    def row_ends(self, name, point):
        """The ends of a row."""
        self._begin((name, point))
        while len(self._queue) > 0:
            batch = self._batches.pop(heappop(self._queue))
            for (row, dot, there, many), share in batch.items():
                self._go_on(row, dot, there, many, share)
        return self._ends[(name, point)]

    def _begin(self, row):
        if row not in self._ends:
            self._ends[row] = {}
            self._waiting[row] = {}
            self._put(row, self._dots.roots[row[0]], row[1], 0, 1)

    def _put(self, row, dot, there, many, share):
        """Adds a share to what comes to a dot."""
        if share == 0 or many > self._most:
            return
        key = (many, there - row[1])
        if key not in self._batches:
            self._batches[key] = {}
            heappush(self._queue, key)
        batch = self._batches[key]
        item = (row, dot, there, many)
        batch[item] = batch.get(item, 0) + share

    def _go_on(self, row, dot, there, many, share):
        """Adds to all that comes of a share at a dot."""
        dots = self._dots
        if dots.ends[dot]:
            self._end(row, there, many, share)
        for letter, leads in dots.letters[dot].items():
            for led, more, weight in weighed_arcs(self._ground, self._writer, there, letter):
                for longer in leads:
                    self._put(row, longer, led, many + more, share * weight)
        for name, longer in dots.names[dot]:
            if longer == OVER and dots.turns(dot, name):
                self._put(row, dots.roots[name], there, many, share)
            else:
                self._wait(row, (name, there), longer, many, share)

    def _end(self, row, there, many, share):
        ends = self._ends[row]
        ends[(there, many)] = ends.get((there, many), 0) + share
        for (other, longer, before), total in self._waiting[row].items():
            self._put(other, longer, there, before + many, total * share)

    def _wait(self, row, other, longer, many, share):
        """Goes on with where another row leads, now and as soon as more is found of it."""
        self._begin(other)
        waiting = self._waiting[other]
        waiting[(row, longer, many)] = waiting.get((row, longer, many), 0) + share
        for (there, more), total in self._ends[other].items():
            self._put(row, longer, there, many + more, share * total)


def weighed_arcs(ground, writer, point, letter):
    """The list of (point, number of tokens finished, weight) of the arcs by a letter from a point."""
    _, weights, nexts = writer
    place, state = divmod(point, len(weights))
    found = []
    for there, token in ground.steps[place].get(letter, []):
        if token < 0:
            found.append((there * len(weights) + state, 0, 1))
        elif weights[state][token] > 0:
            found.append((there * len(weights) + nexts[state][token], 1, weights[state][token]))
    return found
