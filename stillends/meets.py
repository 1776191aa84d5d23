"""What the ways of items cost: the least prices, numbers of letters and numbers of rules."""

from heapq import heappop, heappush

from stillends.bodies import all_bodies
from stillends.checks import ask_below
from stillends.closures import bits


def prices(grammar, machine):
    """All (p, name, q, price) where the item (p, name, q) has a way and this least price, ascending."""
    meet = Meet(all_bodies(grammar), machine, 0)
    # Arcs lead to greater numbers more often than not, so most of what a state needs is settled ahead of it.
    meet.settle_all(list(range(machine[0]))[::-1])
    told = []
    for here in range(machine[0]):
        for name in range(len(grammar[0])):
            for three, ends in meet.threes_of(here, meet.bodies.part_of(name)):
                told.extend([(here, name, there, three[0]) for there in bits(ends)])
    return tuple(sorted(told))


def least_three(grammar, machine, here, name, there):
    """The least price, and with it the fewest letters, and with these the fewest rules; None if there is no way."""
    ask_item(grammar, machine, here, name, there)
    meet = Meet(all_bodies(grammar), machine, 1)
    goal = meet.settle(here, name, 1 << there)
    return None if goal is None else goal[0]


def ask_item(grammar, machine, here, name, there):
    """NotUsable for the first of the three that is no state, no name, no state."""
    ask_below(here, machine[0], "here")
    ask_below(name, len(grammar[0]), "name")
    ask_below(there, machine[0], "there")


class Meet:
    """The least threes of the items of a grammar and a machine, and of the beginnings of bodies, found in sequence.

    A three is a tuple of a price, a number of letters and a number of rules. None of these becomes less
    as items are put together, so the least that is not settled yet is settled next. With size 0 letters
    and rules do not count, so that all ends with one price are settled at once. If wanted is not None it has
    for each state a dict from parts to the set of the ends that are looked at, all others are left out. If rooms is
    not None it has for each state the greatest price that is looked at. The toll is the price of each rule.
    """

    def __init__(self, bodies, machine, size, wanted=None, rooms=None, toll=0):
        self.bodies = bodies
        self.size = size
        self.toll = toll
        self._wanted = wanted
        self._rooms = rooms
        count, arcs = machine
        # For each state and letter a dict from prices to sets of states.
        self._steps = [{} for _ in range(count)]
        for here, letter, there, price in arcs:
            sets = self._steps[here].setdefault(letter, {})
            sets[price] = sets.get(price, 0) | 1 << there
        # For each state a dict from parts to the list of (three, set of ends) that are settled, and to all these ends.
        self._threes = [{} for _ in range(count)]
        self._ends = [{} for _ in range(count)]
        # What waits for a name to begin in a state: by that state and the longer beginning, (state, three).
        self._waiting = {}
        self._begun = [False] * count
        # For each three offered a dict from (state, part) to sets of ends that are to be settled; the threes as a heap.
        self._offers = {}
        self._queue = []
        # For each state a dict from parts to dicts that have the least three offered for a set of ends.
        self._least = [{} for _ in range(count)]

    def threes_of(self, here, part):
        """The list of (three, set of ends) that are settled for a part from a state, ascending."""
        return self._threes[here].get(part, [])

    def begin_at(self, state):
        """Looks at all names from the state on, too."""
        if not self._begun[state]:
            self._begun[state] = True
            self._offer((0, 0, 0), state, 0, 1 << state)

    def settle_all(self, states):
        """Settles all there is from these states, one after another, and from those that they lead to."""
        for state in states:
            self.begin_at(state)
            while len(self._queue) > 0:
                self._settle_next()

    def settle(self, here, name, goals):
        """Settles until the name leads from here to one of a set of states: a pair of the three and such a state.

        None if it leads to none.
        """
        return self.settle_part(here, self.bodies.part_of(name), goals)

    def settle_part(self, here, part, goals):
        """What settle tells, of any part."""
        self.begin_at(here)
        while self._ends[here].get(part, 0) & goals == 0:
            if len(self._queue) == 0:
                return None
            self._settle_next()
        met = [(three, ends & goals) for three, ends in self._threes[here][part] if ends & goals > 0]
        return (met[0][0], bits(met[0][1])[0])

    def _offer(self, three, here, part, ends):
        """Puts ends that are not settled into the queue."""
        if self._rooms is not None and three[0] > self._rooms[here]:
            return
        if self._wanted is not None and part > 0:
            ends &= self._wanted[here].get(part, 0)
            if ends == 0:
                return
        least = self._least[here].setdefault(part, {})
        # The same ends are offered again and again where prices differ; only a lesser three is of use.
        if ends in least and least[ends] <= three:
            return
        least[ends] = three
        if three not in self._offers:
            self._offers[three] = {}
            heappush(self._queue, three)
        offers = self._offers[three]
        offers[(here, part)] = offers.get((here, part), 0) | ends

    def _settle_next(self):
        """Settles all that is offered with the least three; what is offered with it meanwhile comes next."""
        three = heappop(self._queue)
        offers = self._offers.pop(three)
        for (here, part), ends in offers.items():
            self._settle_ends(three, here, part, ends)

    def _settle_ends(self, three, here, part, ends):
        known = self._ends[here].get(part, 0)
        fresh = ends & ~known
        if fresh == 0:
            return
        self._ends[here][part] = known | fresh
        self._threes[here].setdefault(part, []).append((three, fresh))
        if part < self.bodies.many:
            self._go_on(here, part, three, fresh)
        else:
            self._pass_on(here, part, three, fresh)

    def _go_on(self, here, beginning, three, ends):
        """Offers what comes of a settled beginning: longer ones, and the names of which it is a whole body."""
        bodies = self.bodies
        price, letters, rules = three
        for name in bodies.ends[beginning]:
            self._offer((price + self.toll, letters, rules + self.size), here, bodies.part_of(name), ends)
        if len(bodies.by_letter[beginning]) + len(bodies.by_name[beginning]) == 0:
            return
        for stop in bits(ends):
            for letter, longer in bodies.by_letter[beginning]:
                still = ~self._ends[here].get(longer, 0)
                for more, states in self._steps[stop].get(letter, {}).items():
                    if states & still > 0:
                        self._offer((price + more, letters + self.size, rules), here, longer, states & still)
            for name, longer in bodies.by_name[beginning]:
                self.begin_at(stop)
                self._waiting.setdefault((stop, longer), []).append((here, three))
                still = ~self._ends[here].get(longer, 0)
                for other, states in self.threes_of(stop, bodies.part_of(name)):
                    if states & still > 0:
                        self._offer(sum_of(three, other), here, longer, states & still)

    def _pass_on(self, here, part, three, ends):
        """Offers what comes of a settled name to all that waits for it."""
        for longer in self.bodies.uses[part - self.bodies.many]:
            for waiting, other in self._waiting.get((here, longer), []):
                still = ends & ~self._ends[waiting].get(longer, 0)
                if still > 0:
                    self._offer(sum_of(three, other), waiting, longer, still)


def sum_of(three, other):
    """What comes of two threes when what they tell of is put together."""
    return (three[0] + other[0], three[1] + other[1], three[2] + other[2])
