"""The likeliest rows: good rows with the most tapes, and ceilings that show that no good row has more."""

from heapq import heappop, heappush

from stillends.bodies import all_bodies
from stillends.checks import ask_short
from stillends.grammars import is_name
from stillends.letters import END
from stillends.spellers import Ground


def likeliest(task, writer, budget):
    """A good row with the most tapes, how many these are, and ceilings; None and 0 if no good row has a tape."""
    ask_short(budget, "budget")
    best = Best(task, writer, budget)
    row, tapes = best.row_and_tapes()
    return (row, tapes, best.ceilings())


class Best:
    """The greatest products of weights of all items, by numbers of tokens.

    A point is the number of a place times the number of the writer's states, and the number of a state. A part, a
    name or a beginning of a body, leads from a point to a point with so many tokens; the greatest product of the
    weights of these tokens is looked for, always at least 1, as tokens of weight 0 are left out. Products are settled
    by numbers of tokens, and with each number from the greatest one on: what adds no token leaves a product as it is.
    """

    def __init__(self, task, writer, most):
        grammar, tokens, book, begun, mode = task
        self._start = grammar[1]
        self._names = len(grammar[0])
        self._bodies = all_bodies(grammar)
        self._ground = Ground(tokens, book, begun, mode)
        self._writer = writer
        self._states = len(writer[1])
        self._most = most
        points = self._ground.many * self._states
        # For each point a dict from parts to dicts that have for each point led to the list of the products by
        # number of tokens, 0 if there is none.
        self._products = [{} for _ in range(points)]
        # In what sequence products were settled, by the point, the part, the point led to and the number of tokens.
        self._turns = {}
        # For each name and point a dict of True for the points and longer beginnings that go on with the name there.
        self._waits = {}
        # What is offered with the number of tokens that is settled now, and with the next one: greatest products.
        self._offers = {(point, 0, point): 1 for point in range(points)}
        self._later = {}
        for many in range(most + 1):
            self._settle_all(many)

    def _settle_all(self, many):
        """Settles all products with so many tokens."""
        self._offer_joined(many)
        queue = sorted([(-product, item) for item, product in self._offers.items()])
        while len(queue) > 0:
            product, item = heappop(queue)
            here, part, there = item
            known = self._products[here].setdefault(part, {}).setdefault(there, [])
            if len(known) <= many:
                known.extend([0] * (many - len(known)))
                known.append(-product)
                self._turns[(here, part, there, many)] = len(self._turns)
                found = self._found_with(item, -product)
                for other in found:
                    if self._offers.get(other, 0) < -product:
                        self._offers[other] = -product
                        heappush(queue, (product, other))
        self._offers = self._later
        self._later = {}

    def _offer_joined(self, many):
        """Offers what is put together of a beginning and a name that both have tokens, so many in all."""
        for (name, stop), waits in self._waits.items():
            ends = self._products[stop].get(self._bodies.part_of(name), {})
            for here, longer in waits:
                some = self._products[here][self._bodies.befores[longer]][stop]
                for there, others in ends.items():
                    # All lists still end below so many tokens.
                    if len(some) + len(others) >= many + 2:
                        self._offer(self._offers, (here, longer, there), _greatest(some, others, many))

    def _offer(self, offers, item, product):
        """Notes a product of an item if it is the greatest one so far."""
        if offers.get(item, 0) < product:
            offers[item] = product

    def _found_with(self, item, product):
        """The items that come of one without more tokens; those that come with one more are offered for later."""
        here, part, there = item
        if part >= self._bodies.many:
            return self._found_with_name(here, part - self._bodies.many, there)
        found = [(here, self._bodies.part_of(name), there) for name in self._bodies.ends[part]]
        place, state = divmod(there, self._states)
        for letter, longer in self._bodies.by_letter[part]:
            for led, token in self._ground.steps[place].get(letter, []):
                if token < 0:
                    found.append((here, longer, led * self._states + state))
                elif self._writer[1][state][token] > 0:
                    point = led * self._states + self._writer[2][state][token]
                    self._offer(self._later, (here, longer, point), product * self._writer[1][state][token])
        names = self._bodies.by_name[part]
        for name, longer in names:
            self._waits.setdefault((name, there), {})[(here, longer)] = True
            ends = self._products[there].get(self._bodies.part_of(name), {})
            found.extend([(here, longer, end) for end, products in ends.items() if products[0] > 0])
        return found

    def _found_with_name(self, here, name, there):
        """The items that come of a name without more tokens: those of beginnings that have none ahead of it."""
        found = []
        for waiting, longer in self._waits.get((name, here), {}):
            products = self._products[waiting][self._bodies.befores[longer]][here]
            if products[0] > 0:
                found.append((waiting, longer, there))
        return found

    def ceilings(self):
        """The ascending tuple of (p, a, name, q, b, k, greatest product) for all names."""
        told = []
        for here in range(len(self._products)):
            for name in range(self._names):
                for there, products in self._products[here].get(self._bodies.part_of(name), {}).items():
                    head = divmod(here, self._states) + (name,) + divmod(there, self._states)
                    told.extend([head + (many, product) for many, product in enumerate(products) if product > 0])
        return tuple(sorted(told))

    def row_and_tapes(self):
        """A good row with the most tapes, and how many these are; None and 0 if no good row has a tape."""
        part = self._bodies.part_of(self._start)
        best = (0, None)
        for there, products in self._products[0].get(part, {}).items():
            place, state = divmod(there, self._states)
            if place in self._ground.finals:
                for many, product in enumerate(products):
                    tapes = product * self._writer[1][state][END] * _power(self._writer[0], self._most - many)
                    if tapes > best[0]:
                        best = (tapes, (0, part, there, many))
        return (None if best[1] is None else self._row_of(best[1]), best[0])

    def _row_of(self, item):
        """The tokens of a way of an item, with a number of tokens, that has the greatest product."""
        row = []
        # What is still to be told, the next one last: items, and tokens.
        due = [item]
        while len(due) > 0:
            told = due.pop()
            if isinstance(told, int):
                row.append(told)
            elif told[3] > 0:
                due.extend(self._next_below(told))
        return tuple(row)

    def _next_below(self, item):
        """What an item was put together of when it was settled, the last one first: items, and a token."""
        here, part, there, many = item
        if part >= self._bodies.many:
            wholes = [(here, whole, there, many) for _, whole in self._bodies.wholes[part - self._bodies.many]]
            return [[below for below in wholes if self._fits(item, 1, below)][0]]
        last = self._bodies.lasts[part]
        for stop in self._products[here][self._bodies.befores[part]]:
            before = (here, self._bodies.befores[part], stop)
            below = self._below_name(item, before) if is_name(last) else self._below_letter(item, before)
            if below is not None:
                return below
        return []

    def _below_letter(self, item, before):
        """What an item is put together of if it comes of these three by a letter; None if it does not."""
        _, part, there, many = item
        place, state = divmod(before[2], self._states)
        for led, token in self._ground.steps[place].get(self._bodies.lasts[part], []):
            if token < 0 and led * self._states + state == there and self._fits(item, 1, before + (many,)):
                return [before + (many,)]
            if token >= 0 and led * self._states + self._writer[2][state][token] == there:
                if self._fits(item, self._writer[1][state][token], before + (many - 1,)):
                    return [token, before + (many - 1,)]
        return None

    def _below_name(self, item, before):
        """What an item is put together of if it comes of these three by a name; None if it does not."""
        _, part, there, many = item
        name = self._bodies.part_of(self._bodies.lasts[part])
        for less in range(many + 1):
            other = (before[2], name, there, many - less)
            if self._is_ahead(other, item) and self._fits(item, self._product(other), before + (less,)):
                return [other, before + (less,)]
        return None

    def _fits(self, item, product, before):
        """Whether an item has the product of one that was settled ahead of it, multiplied by this one."""
        return self._is_ahead(before, item) and self._product(before) * product == self._product(item)

    def _is_ahead(self, item, other):
        return item in self._turns and self._turns[item] < self._turns[other]

    def _product(self, item):
        here, part, there, many = item
        return self._products[here][part][there][many]


def _greatest(some, others, many):
    """The greatest product of two numbers, one of each list, whose places add up to many; both lists end before it."""
    heads = some[many + 1 - len(others) :]
    tails = others[many + 1 - len(some) :]
    return max([one * other for one, other in zip(heads, tails[::-1])])


def _power(total, times):
    """The total multiplied by itself so many times."""
    power = 1
    for _ in range(times):
        power *= total
    return power
