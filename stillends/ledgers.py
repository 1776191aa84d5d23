"""How many tokens it takes at least until all that has to come has come."""

from heapq import heappop, heappush

from stillends.closures import bits
from stillends.dots import OVER
from stillends.pricerows import PriceRows

# What is to be done when all has come; it is done already.
_DONE = ()


class Ledger:
    """The least numbers of tokens, found as they are asked for.

    An entry is a triple (dot, tail, place): from the place on what stands behind the dot has to come, then
    what the tail asks for, and then no token may be begun, at a final place.
    """

    def __init__(self, dots, tails, ground):
        self._dots = dots
        self._tails = tails
        self._finals = ground.finals
        self._steps = ground.steps
        self._rows = PriceRows(dots, ground.priced())
        # For each entry asked for the least number of tokens, None if it cannot be done.
        self._least = {_DONE: 0}

    def least(self, dot, tail, place):
        """The least number of tokens that an entry takes, None if it cannot be done."""
        entry = (dot, tail, place)
        if entry not in self._least:
            self._find(entry)
        return self._least[entry]

    def _find(self, entry):
        """Finds all entries that this one leads to, and their numbers, settled from the least one on."""
        back, queue, met = self._leads_back(entry)
        while len(queue) > 0:
            number, nearest = heappop(queue)
            if nearest in self._least:
                continue
            self._least[nearest] = number
            for price, other in back.get(nearest, []):
                if other not in self._least:
                    heappush(queue, (number + price, other))
        for other in met:
            if other not in self._least:
                self._least[other] = None

    def _leads_back(self, entry):
        """What leads to each new entry, with its price; a heap of what known ones offer; and all new entries."""
        back = {}
        queue = []
        met = {entry: True}
        due = [entry]
        while len(due) > 0:
            here = due.pop()
            for price, there in self._leads(here):
                if there in self._least:
                    if self._least[there] is not None:
                        heappush(queue, (self._least[there] + price, here))
                    continue
                back.setdefault(there, []).append((price, here))
                if there not in met:
                    met[there] = True
                    due.append(there)
        return (back, queue, met)

    def _leads(self, entry):
        """The list of (price, entry): an entry is done by doing any of these, at the price."""
        dots = self._dots
        dot, tail, place = entry
        found = []
        if dots.ends[dot]:
            found.extend([(0, (longer, other, place)) for longer, other, _ in self._tails.terms[tail]])
            if tail == 0 and place in self._finals:
                found.append((0, _DONE))
        for letter, leads in dots.letters[dot].items():
            for there, token in self._steps[place].get(letter, []):
                price = 1 if token >= 0 else 0
                found.extend([(price, (longer, tail, there)) for longer in leads])
        for name, longer in dots.names[dot]:
            if longer == OVER:
                found.append((0, (dots.roots[name], tail, place)))
                continue
            for price, places in self._rows.levels(name, place):
                found.extend([(price, (longer, tail, there)) for there in bits(places)])
        return found
