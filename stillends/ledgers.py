"""How many tokens it takes at least until all that has to come has come."""

from heapq import heappop, heappush

from stillends.closures import bits
from stillends.dots import OVER

# What is to be done when all has come; it is done already.
_DONE = ()


class PriceRows:
    """For names and places the places to which the names lead, by the least price; found as they are asked for.

    A row is a pair of a name and a place. Its price levels are the list of (price, set of places), ascending;
    sets of places are integers, as in closures. A name that comes last in a body and leads back to the name of
    that body is gone through for the row itself, so that a name that ends with itself is one row, not many.
    """

    def __init__(self, dots, machine):
        self._dots = dots
        # For each letter the list of (price, set of the places with arcs, dict from these to the sets led to).
        self._steps = _steps_by_letter(machine[1])
        self._levels = {}
        # For each row a dict from dots to the set of the places come to, and the set of those where it can end.
        self._reached = {}
        self._ended = {}
        # What waits for a row: (row, dot, price).
        self._waiting = {}
        # For each price offered a dict from (row, dot) to the set of places; the prices as a heap.
        self._offers = {}
        self._queue = []

    def levels(self, name, here):
        """The price levels of a row."""
        self._begin((name, here))
        while len(self._queue) > 0:
            price = heappop(self._queue)
            offers = self._offers.pop(price)
            for (row, dot), places in offers.items():
                self._settle(price, row, dot, places)
        return self._levels[(name, here)]

    def _begin(self, row):
        if row not in self._levels:
            self._levels[row] = []
            self._reached[row] = {}
            self._ended[row] = 0
            self._waiting[row] = []
            self._offer(0, row, self._dots.roots[row[0]], 1 << row[1])

    def _offer(self, price, row, dot, places):
        """Puts places that are not come to yet into the queue."""
        fresh = places & ~self._reached[row].get(dot, 0)
        if fresh == 0:
            return
        if price not in self._offers:
            self._offers[price] = {}
            heappush(self._queue, price)
        offers = self._offers[price]
        offers[(row, dot)] = offers.get((row, dot), 0) | fresh

    def _settle(self, price, row, dot, places):
        """Comes to places at a dot, at a price that is the least one for them."""
        come = self._reached[row]
        fresh = places & ~come.get(dot, 0)
        if fresh == 0:
            return
        come[dot] = come.get(dot, 0) | fresh
        if self._dots.ends[dot]:
            self._end(price, row, fresh)
        for letter, leads in self._dots.letters[dot].items():
            for more, sources, goals in self._steps.get(letter, []):
                reached = 0
                for place in bits(fresh & sources):
                    reached |= goals[place]
                for longer in leads:
                    self._offer(price + more, row, longer, reached)
        for name, longer in self._dots.names[dot]:
            if longer == OVER and self._dots.turns(row[0], name):
                self._offer(price, row, self._dots.roots[name], fresh)
            else:
                self._wait(price, row, name, longer, fresh)

    def _end(self, price, row, places):
        fresh = places & ~self._ended[row]
        if fresh > 0:
            self._ended[row] |= fresh
            self._levels[row].append((price, fresh))
            for other, longer, before in self._waiting[row]:
                self._offer(before + price, other, longer, fresh)

    def _wait(self, price, row, name, longer, places):
        """Goes on with where a name leads from the places, now and as soon as more is found of it."""
        for place in bits(places):
            other = (name, place)
            self._begin(other)
            self._waiting[other].append((row, longer, price))
            for more, ends in self._levels[other]:
                self._offer(price + more, row, longer, ends)


def _steps_by_letter(arcs):
    goals = {}
    for here, letter, there, price in arcs:
        leads = goals.setdefault(letter, {}).setdefault(price, {})
        leads[here] = leads.get(here, 0) | 1 << there
    steps = {}
    for letter, by_price in goals.items():
        steps[letter] = []
        for price in sorted(by_price):
            sources = 0
            for here in by_price[price]:
                sources |= 1 << here
            steps[letter].append((price, sources, by_price[price]))
    return steps


class Ledger:
    """The least numbers of tokens, found as they are asked for.

    An entry is a triple (dot, tail, place): from the place on what stands behind the dot has to come, then
    what the tail asks for, and then no token may be begun, at a final place.
    """

    def __init__(self, dots, tails, ground):
        self._dots = dots
        self._tails = tails
        self._finals = ground.finals
        self._steps = ground.steps
        self._rows = PriceRows(dots, ground.priced())
        # For each entry asked for the least number of tokens, None if it cannot be done.
        self._least = {_DONE: 0}

    def least(self, dot, tail, place):
        """The least number of tokens that an entry takes, None if it cannot be done."""
        entry = (dot, tail, place)
        if entry not in self._least:
            self._find(entry)
        return self._least[entry]

    def _find(self, entry):
        """Finds all entries that this one leads to, and their numbers, settled from the least one on."""
        back, queue, met = self._leads_back(entry)
        while len(queue) > 0:
            number, nearest = heappop(queue)
            if nearest in self._least:
                continue
            self._least[nearest] = number
            for price, other in back.get(nearest, []):
                if other not in self._least:
                    heappush(queue, (number + price, other))
        for other in met:
            if other not in self._least:
                self._least[other] = None

    def _leads_back(self, entry):
        """What leads to each new entry, with its price; a heap of what known ones offer; and all new entries."""
        back = {}
        queue = []
        met = {entry: True}
        due = [entry]
        while len(due) > 0:
            here = due.pop()
            for price, there in self._leads(here):
                if there in self._least:
                    if self._least[there] is not None:
                        heappush(queue, (self._least[there] + price, here))
                    continue
                back.setdefault(there, []).append((price, here))
                if there not in met:
                    met[there] = True
                    due.append(there)
        return (back, queue, met)

    def _leads(self, entry):
        """The list of (price, entry): an entry is done by doing any of these, at the price."""
        dots = self._dots
        dot, tail, place = entry
        found = []
        if dots.ends[dot]:
            found.extend([(0, (longer, other, place)) for longer, other, _ in self._tails.terms[tail]])
            if tail == 0 and place in self._finals:
                found.append((0, _DONE))
        for letter, leads in dots.letters[dot].items():
            for there, token in self._steps[place].get(letter, []):
                price = 1 if token >= 0 else 0
                found.extend([(price, (longer, tail, there)) for longer in leads])
        for name, longer in dots.names[dot]:
            if longer == OVER and name not in dots.inner:
                found.append((0, (dots.roots[name], tail, place)))
                continue
            for price, places in self._rows.levels(name, place):
                found.extend([(price, (longer, tail, there)) for there in bits(places)])
        return found
