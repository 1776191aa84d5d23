"""Endings of rows, with trees."""

from heapq import heappop, heappush

from stillends.bodies import useful_bodies
from stillends.chains import linked
from stillends.checks import ask_row
from stillends.closures import bits
from stillends.errors import TooMuch
from stillends.grammars import is_name
from stillends.leastways import LeastWays
from stillends.limits import ROW_LIMIT, TREE_LIMIT
from stillends.meets import Meet
from stillends.needing import outlook_at
from stillends.spellers import ground_of
from stillends.tasks import letters_behind
from stillends.treetexts import letters_of_tree


def ending(task, row):
    """An ending of the row with the fewest tokens, then letters, then rules, and a tree; None if it is lost."""
    ask_row(task[1], row)
    outlook = outlook_at(task, row)
    need = outlook.need()
    if need is None:
        return None
    if need > ROW_LIMIT:
        raise TooMuch("row")
    ground = ground_of(task)
    text = letters_behind(task, row)
    machine, first = linked(ground.priced(), outlook.spot(), text)
    states = [first + k for k in range(len(text))] + [outlook.spot()]
    begins = [states[k] for k in outlook.openings()]
    goals = sum([1 << final for final in ground.finals])
    tree, way = tight_way(task[0], machine, begins, goals, need)
    letters = letters_of_tree(task[0], tree)
    return (_tokens_of(ground, letters[len(text) :], way[len(text) :]), tree)


def _tokens_of(ground, letters, places):
    """The tokens finished by the way through these places that reads these letters."""
    spelled = {(here, letter, there): token for here, letter, there, token in ground.arcs}
    steps = [(places[k], letter, places[k + 1]) for k, letter in enumerate(letters)]
    return tuple([spelled[step] for step in steps if spelled[step] >= 0])


def tight_way(grammar, machine, begins, goals, price):
    """A pair (tree, states) of any way of the start with the least three, from a state to any of a set of states.

    begins are the states where names are sure to be looked at on the way, the first one that from which it leads.
    TooMuch("tree"). It is as least_way_to, but fast where few ways have the least price, the first of the three.
    """
    ways, three, there = tight_ways(grammar, machine, begins, grammar[1], goals, price)
    if three[2] > TREE_LIMIT:
        raise TooMuch("tree")
    return ways.way(begins[0], grammar[1], there)


def tight_ways(grammar, machine, begins, name, goals, price):
    """The least ways of a useful name, from the first of begins to any of a set of states, with this least price.

    Told are a LeastWays, the least three and the state that is led to. It goes through what comes of the least prices
    alone.
    """
    bodies = useful_bodies(grammar)
    here = begins[0]
    prices = Meet(bodies, machine, 0, None, _rooms(machine, here, price))
    # What begins later is mostly needed ahead of the rest, so it is settled first.
    prices.settle_all(begins[::-1])
    wanted = Wanted(prices, machine)
    wanted.want(here, bodies.part_of(name), price, goals)
    meet = Meet(bodies, machine, 1, wanted.ends)
    three, there = meet.settle(here, name, goals)
    return (LeastWays(meet, machine), three, there)


def paid_arcs(grammar, machine, here, name, goals, price):
    """The list of the arcs with prices, in sequence, of a way of a useful name as tight_ways tells it."""
    ways, _, there = tight_ways(grammar, machine, [here], name, goals, price)
    return ways.paid_arcs(here, name, there)


def _rooms(machine, here, price):
    """For each state what is left of a price behind the arcs that lead to it from here, -1 if it is too far."""
    leads = [[] for _ in range(machine[0])]
    for begin, _, there, cost in machine[1]:
        leads[begin].append((there, cost))
    rooms = [-1] * machine[0]
    queue = [(0, here)]
    while len(queue) > 0:
        used, state = heappop(queue)
        if rooms[state] < price - used:
            rooms[state] = price - used
            for there, cost in leads[state]:
                if rooms[there] < price - used - cost:
                    heappush(queue, (used + cost, there))
    return rooms


class Wanted:
    """The items, of names and of beginnings of bodies, of which ways with the least prices are put together.

    ends has for each state a dict from parts to the set of ends.
    """

    def __init__(self, prices, machine):
        self._bodies = prices.bodies
        self._prices = prices
        self.ends = [{} for _ in range(machine[0])]
        # For each letter and price a dict that has for each state the set of the states that lead to it.
        self._sources = {}
        for here, letter, there, price in machine[1]:
            sources = self._sources.setdefault(letter, {}).setdefault(price, {})
            sources[there] = sources.get(there, 0) | 1 << here
        # For states and parts, as they are asked for, a dict from least prices to the sets of ends with them.
        self._levels = {}

    def want(self, here, part, price, ends):
        """Wants the items to any of the ends that have this as their least price, and all that they are made of."""
        due = [(here, part, price, ends & self._ends_at(here, part, price))]
        while len(due) > 0:
            state, below, cost, stops = due.pop()
            known = self.ends[state].get(below, 0)
            fresh = stops & ~known
            if fresh > 0:
                self.ends[state][below] = known | fresh
                due.extend(self._next_below(state, below, cost, fresh))

    def _next_below(self, here, part, price, ends):
        """What items with this least price are put together of, as quadruples (state, part, price, set of ends)."""
        bodies = self._bodies
        if part >= bodies.many:
            wholes = [whole for _, whole in bodies.wholes[part - bodies.many]]
            found = [(here, whole, price, ends & self._ends_at(here, whole, price)) for whole in wholes]
            return [told for told in found if told[3] > 0]
        if part == 0:
            return []
        if is_name(bodies.lasts[part]):
            return self._below_name(here, bodies.befores[part], bodies.part_of(bodies.lasts[part]), price, ends)
        return self._below_letter(here, bodies.befores[part], bodies.lasts[part], price, ends)

    def _below_letter(self, here, before, letter, price, ends):
        """What items of a beginning and a letter behind it are put together of, as in _next_below."""
        found = []
        for cost, sources in self._sources.get(letter, {}).items():
            stops = 0
            for end in bits(ends):
                stops |= sources.get(end, 0)
            stops &= self._ends_at(here, before, price - cost)
            if stops > 0:
                found.append((here, before, price - cost, stops))
        return found

    def _below_name(self, here, before, part, price, ends):
        """What items of a beginning and a name behind it are put together of, as in _next_below."""
        found = []
        for cost, stops in self._levels_of(here, before).items():
            fitting = 0
            for stop in bits(stops):
                got = ends & self._ends_at(stop, part, price - cost)
                if got > 0:
                    fitting |= 1 << stop
                    found.append((stop, part, price - cost, got))
            if fitting > 0:
                found.append((here, before, cost, fitting))
        return found

    def _ends_at(self, here, part, price):
        return self._levels_of(here, part).get(price, 0)

    def _levels_of(self, here, part):
        """A dict from the least prices of a part from a state to the sets of ends with them."""
        item = (here, part)
        if item not in self._levels:
            levels = {}
            for three, ends in self._prices.threes_of(here, part):
                levels[three[0]] = levels.get(three[0], 0) | ends
            self._levels[item] = levels
        return self._levels[item]
