"""Whether an answer shows a likeliest row: ceilings for the products of the weights of tokens."""

from stillends.bodies import all_bodies
from stillends.checks import ask_short, is_below, is_count, is_tuple_of
from stillends.grammars import is_name
from stillends.letters import END, is_int, is_number
from stillends.spellers import Ground
from stillends.tapes import tapes_of
from stillends.tasks import is_good
from stillends.tokenlists import is_row


def judge_likeliest(task, writer, budget, answer):
    """Whether answer is a triple of a row, how many tapes it has, and ceilings that show that no good row has more."""
    ask_short(budget, "budget")
    if not is_tuple_of(answer, 3):
        return False
    row, tapes, ceilings = answer
    if not _has_tapes(task, writer, budget, row, tapes):
        return False
    cover = Cover(task, writer, budget)
    return cover.takes_in(ceilings) and cover.is_within(tapes) and cover.covers_all()


def _has_tapes(task, writer, budget, row, tapes):
    """Whether row is a good row with so many tapes, at least 1; or None, and the number 0."""
    if row is None:
        return is_int(tapes) and tapes == 0
    if not is_row(task[1], row) or len(row) > budget or not is_count(tapes):
        return False
    return tapes == tapes_of(task[1], writer, row, budget) and is_good(task, row)


class Cover:
    """Entries that are to cover all runs along the bodies of a grammar's rules.

    A point is the number of a place times the number of the writer's states, and the number of a state. Where runs
    or entries lead is told by dicts from points to dicts: for each number of tokens the greatest product.
    """

    def __init__(self, task, writer, most):
        grammar, tokens, book, begun, mode = task
        self._grammar = grammar
        self._ground = Ground(tokens, book, begun, mode)
        self._writer = writer
        self._states = len(writer[1])
        self._most = most
        # For each point a dict from names to where the entries for them lead.
        self._entries = [{} for _ in range(self._ground.many * self._states)]

    def takes_in(self, thing):
        """Takes in entries; whether they are a tuple of entries, no two alike but for their last elements."""
        if not isinstance(thing, tuple):
            return False
        for entry in thing:
            if not self._is_entry(entry) or not self._take_in(entry):
                return False
        return True

    def _is_entry(self, thing):
        if not is_tuple_of(thing, 7):
            return False
        place, state, name, end, behind, many, number = thing
        if not is_below(place, self._ground.many) or not is_below(end, self._ground.many):
            return False
        if not is_below(state, self._states) or not is_below(behind, self._states):
            return False
        return is_below(name, len(self._grammar[0])) and is_below(many, self._most + 1) and is_number(number)

    def _take_in(self, entry):
        """Takes in an entry; whether none that is alike was there."""
        place, state, name, end, behind, many, number = entry
        ends = self._entries[place * self._states + state].setdefault(name, {})
        numbers = ends.setdefault(end * self._states + behind, {})
        if many in numbers:
            return False
        numbers[many] = number
        return True

    def is_within(self, tapes):
        """Whether no entry for the whole start, times the tapes of a row with its tokens, comes above so many tapes."""
        free = [1]
        while len(free) <= self._most:
            free.append(free[-1] * self._writer[0])
        for there, numbers in self._entries[0].get(self._grammar[1], {}).items():
            place, state = divmod(there, self._states)
            if place in self._ground.finals:
                last = self._writer[1][state][END]
                if any([number * last * free[self._most - many] > tapes for many, number in numbers.items()]):
                    return False
        return True

    def covers_all(self):
        """Whether there is an entry for each run, with no lesser number than its product."""
        bodies = all_bodies(self._grammar)
        return all([self._covers(here, bodies) for here in range(len(self._entries))])

    def _covers(self, here, bodies):
        """Whether the runs from a point are covered."""
        runs = [{here: {0: 1}}]
        for beginning in range(1, bodies.many):
            before = runs[bodies.befores[beginning]]
            last = bodies.lasts[beginning]
            runs.append(self._behind_name(before, last) if is_name(last) else self._behind_letter(before, last))
        for beginning, ends in enumerate(runs):
            for name in bodies.ends[beginning]:
                entries = self._entries[here].get(name, {})
                if not all([_are_below(products, entries.get(there, {})) for there, products in ends.items()]):
                    return False
        return True

    def _behind_letter(self, runs, letter):
        """Where the runs lead with one more letter."""
        found = {}
        for there, products in runs.items():
            place, state = divmod(there, self._states)
            for led, token in self._ground.steps[place].get(letter, []):
                if token < 0:
                    self._join(found.setdefault(led * self._states + state, {}), products, 0, 1)
                elif self._writer[1][state][token] > 0:
                    point = led * self._states + self._writer[2][state][token]
                    self._join(found.setdefault(point, {}), products, 1, self._writer[1][state][token])
        return found

    def _behind_name(self, runs, name):
        """Where the runs lead with one more name, by all entries for it."""
        found = {}
        for stop, products in runs.items():
            for there, numbers in self._entries[stop].get(name, {}).items():
                joined = found.setdefault(there, {})
                for more, number in numbers.items():
                    self._join(joined, products, more, number)
        return found

    def _join(self, joined, products, more, number):
        """Notes the products with more tokens, times the number, as far as tokens are left for them."""
        for before, product in products.items():
            many = before + more
            if many <= self._most and joined.get(many, -1) < product * number:
                joined[many] = product * number


def _are_below(products, numbers):
    """Whether there is a number for each of the products, and no lesser one."""
    return all([many in numbers and product <= numbers[many] for many, product in products.items()])
