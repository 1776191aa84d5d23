"""Endings of rows, with trees."""

from stillends.bodies import useful_bodies
from stillends.chains import linked
from stillends.checks import ask_row
from stillends.closures import bits
from stillends.errors import TooMuch
from stillends.grammars import is_name
from stillends.leastways import LeastWays
from stillends.limits import ROW_LIMIT, TREE_LIMIT
from stillends.meets import Meet
from stillends.needing import outlook_at
from stillends.spellers import ground_of
from stillends.tasks import letters_behind
from stillends.treetexts import letters_of_tree


def ending(task, row):
    """An ending of the row with the fewest tokens, then letters, then rules, and a tree; None if it is lost."""
    ask_row(task[1], row)
    outlook = outlook_at(task, row)
    need = outlook.need()
    if need is None:
        return None
    if need > ROW_LIMIT:
        raise TooMuch("row")
    grammar = task[0]
    ground = ground_of(task)
    text = letters_behind(task, row)
    machine, first = linked(ground.priced(), outlook.spot(), text)
    goals = sum([1 << final for final in ground.finals])
    tree, states = tight_way(grammar, machine, first, goals)
    letters = letters_of_tree(grammar, tree)
    return (_tokens_of(ground, letters[len(text) :], states[len(text) :]), tree)


def _tokens_of(ground, letters, places):
    """The tokens finished by the way through these places that reads these letters."""
    spelled = {(here, letter, there): token for here, letter, there, token in ground.arcs}
    steps = [(places[k], letter, places[k + 1]) for k, letter in enumerate(letters)]
    return tuple([spelled[step] for step in steps if spelled[step] >= 0])


def tight_way(grammar, machine, here, goals):
    """A pair (tree, states) of any way of the start, from a state to any of a set of states, with the least three.

    None if there is none; TooMuch("tree"). It is as least_way_to, but goes through what comes of the least
    prices alone; so it is fast where few ways have the least price. It looks at states with numbers from here on,
    and at those that they lead to.
    """
    bodies = useful_bodies(grammar)
    prices = Meet(bodies, machine, 0)
    prices.settle_from(here)
    start = bodies.part_of(grammar[1])
    found = [three[0] for three, ends in prices.threes_of(here, start) if ends & goals > 0]
    if len(found) == 0:
        return None
    wanted = Wanted(prices, machine)
    wanted.want(here, start, found[0], goals)
    meet = Meet(bodies, machine, 1, wanted.ends)
    three, there = meet.settle(here, grammar[1], goals)
    if three[2] > TREE_LIMIT:
        raise TooMuch("tree")
    return LeastWays(meet, machine).way(here, grammar[1], there)


class Wanted:
    """The items, of names and of beginnings of bodies, of which ways with the least prices are put together.

    ends has for each state a dict from parts to the set of ends.
    """

    def __init__(self, prices, machine):
        self._bodies = prices.bodies
        self._prices = prices
        self.ends = [{} for _ in range(machine[0])]
        # For each letter and price a dict that has for each state the set of the states led to.
        self._steps = {}
        for here, letter, there, price in machine[1]:
            leads = self._steps.setdefault(letter, {}).setdefault(price, {})
            leads[here] = leads.get(here, 0) | 1 << there

    def want(self, here, part, price, ends):
        """Wants the items to any of the ends that have this as their least price, and all that they are made of."""
        due = [(here, part, price, ends & self._ends_at(here, part, price))]
        while len(due) > 0:
            state, below, cost, stops = due.pop()
            known = self.ends[state].get(below, 0)
            fresh = stops & ~known
            if fresh > 0:
                self.ends[state][below] = known | fresh
                due.extend(self._next_below(state, below, cost, fresh))

    def _next_below(self, here, part, price, ends):
        """What items with this least price are put together of, as quadruples (state, part, price, set of ends)."""
        bodies = self._bodies
        if part >= bodies.many:
            wholes = [whole for _, whole in bodies.wholes[part - bodies.many]]
            found = [(here, whole, price, ends & self._ends_at(here, whole, price)) for whole in wholes]
            return [told for told in found if told[3] > 0]
        if part == 0:
            return []
        last = bodies.lasts[part]
        before = bodies.befores[part]
        found = []
        for three, stops in self._prices.threes_of(here, before):
            if three[0] <= price:
                fitting = 0
                for stop in bits(stops):
                    got = ends & self._led(stop, last, price - three[0])
                    if got > 0:
                        fitting |= 1 << stop
                        if is_name(last):
                            found.append((stop, bodies.part_of(last), price - three[0], got))
                if fitting > 0:
                    found.append((here, before, three[0], fitting))
        return found

    def _led(self, stop, symbol, price):
        """Where a symbol leads from a state with this least price."""
        if is_name(symbol):
            return self._ends_at(stop, self._bodies.part_of(symbol), price)
        return self._steps.get(symbol, {}).get(price, {}).get(stop, 0)

    def _ends_at(self, here, part, price):
        found = 0
        for three, ends in self._prices.threes_of(here, part):
            if three[0] == price:
                found |= ends
        return found
