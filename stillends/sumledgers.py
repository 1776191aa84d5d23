"""In how many ways all that has to come can come, weighed by a writer."""

from stillends.dots import OVER
from stillends.letters import END
from stillends.orders import components
from stillends.sumrows import SumRows, weighed_arcs

# What is to be done when all has come: END has been written, and all later digits are free.
_FREE = ()


class SumLedger:
    """Sums for tokens left, found as they are asked for.

    An entry is a triple (dot, tail, point): from the point on what stands behind the dot has to come, then what
    the tail asks for, and then END, at a final place. Its sums are a list that has for each number of tokens left,
    up to the most, how many tuples of digits, one more than tokens are left, say what comes, times the trees.
    """

    def __init__(self, dots, tails, ground, writer, most):
        self._dots = dots
        self._tails = tails
        self._ground = ground
        self._writer = writer
        self._rows = SumRows(dots, ground, writer, most)
        free = [1]
        while len(free) <= most:
            free.append(free[-1] * writer[0])
        self._sums = {_FREE: free}

    def sums(self, dot, tail, point):
        """The sums of an entry."""
        entry = (dot, tail, point)
        if entry not in self._sums:
            self._find(entry)
        return self._sums[entry]

    def _find(self, entry):
        """Finds the sums of all new entries that this one leads to."""
        leads = {entry: self._leads(entry)}
        due = [entry]
        while len(due) > 0:
            here = due.pop()
            for there, _, _ in list(leads[here]):
                if there not in self._sums and there not in leads:
                    leads[there] = self._leads(there)
                    due.append(there)
        sequence = _sequence(leads)
        for other in sequence:
            self._sums[other] = []
        for left in range(len(self._sums[_FREE])):
            for other in sequence:
                shares = [ways * self._sums[there][left - more] for there, more, ways in leads[other] if more <= left]
                self._sums[other].append(sum(shares))

    def _leads(self, entry):
        """The list of (entry, number of tokens, number of ways): its sum is put together of these."""
        dots = self._dots
        dot, tail, point = entry
        found = []
        if dots.ends[dot]:
            found.extend([((longer, other, point), 0, ways) for longer, other, ways in self._tails.terms[tail]])
            if tail == 0:
                found.extend(self._last(point))
        for letter, leads in dots.letters[dot].items():
            for there, more, weight in weighed_arcs(self._ground, self._writer, point, letter):
                found.extend([((longer, tail, there), more, weight) for longer in leads])
        for name, longer in dots.names[dot]:
            if longer == OVER:
                found.append(((dots.roots[name], tail, point), 0, 1))
            else:
                ends = self._rows.row_ends(name, point)
                found.extend([((longer, tail, there), many, total) for (there, many), total in ends.items()])
        return found

    def _last(self, point):
        """What comes of END at a point: at a final place it may be written, in as many ways as it has weight."""
        weights = self._writer[1]
        place, state = divmod(point, len(weights))
        return [(_FREE, 0, weights[state][END])] if place in self._ground.finals else []


def _sequence(leads):
    """The entries, each behind those on which it hangs with as many tokens left: it never hangs on itself so."""
    entries = list(leads)
    numbers = {entry: k for k, entry in enumerate(entries)}
    lone = []
    for entry in entries:
        lone.append([numbers[there] for there, more, _ in leads[entry] if more == 0 and there in numbers])
    return [entries[part[0]] for part in components(lone)]
