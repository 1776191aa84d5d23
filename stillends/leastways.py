"""Ways with trees: any with the least three, and the price of a told one."""

from stillends.bodies import all_bodies
from stillends.checks import are_below, is_tuple_of
from stillends.closures import bits
from stillends.errors import TooMuch
from stillends.grammars import is_name
from stillends.limits import TEXT_LIMIT, TREE_LIMIT
from stillends.machines import arcs_by_letter
from stillends.meets import Meet, ask_item, sum_of
from stillends.trees import name_of_tree
from stillends.treetexts import letters_of_tree


def least_way(grammar, machine, here, name, there):
    """A pair (tree, states) of any way of the item with a tree that has the least three; None if it has no way."""
    ask_item(grammar, machine, here, name, there)
    return least_way_to(grammar, machine, here, name, 1 << there)


def least_way_to(grammar, machine, here, name, goals):
    """What least_way tells, of the items with any of a set of last states the one with the least three."""
    meet = Meet(all_bodies(grammar), machine, 1)
    goal = meet.settle(here, name, goals)
    if goal is None:
        return None
    three, there = goal
    ask_size(three[1], three[2])
    return LeastWays(meet, machine).way(here, name, there)


def ask_size(letters, rules):
    """TooMuch if a text has too many letters, or else its tree too many rules, to be handed out."""
    if letters > TEXT_LIMIT:
        raise TooMuch("text")
    if rules > TREE_LIMIT:
        raise TooMuch("tree")


class LeastWays:
    """Finds, for settled items, of what they were put together when they were settled."""

    def __init__(self, meet, machine):
        self._meet = meet
        self._steps = arcs_by_letter(machine[1])
        # By state and part a dict from ends to threes, for those already asked for.
        self._known = {}

    def way(self, here, name, there):
        """The pair (tree, states) of a way of the item with a tree that has its least three."""
        tree = []
        states = [here]
        # What is still to be told, the next one last: triples of a state, a symbol and a state.
        due = [(here, name, there)]
        while len(due) > 0:
            begin, symbol, end = due.pop()
            if is_name(symbol):
                rule, below = self._rule_and_symbols(begin, symbol, end)
                tree.append(rule)
                due.extend(below)
            else:
                states.append(end)
        return (tuple(tree), tuple(states))

    def paid_arcs(self, here, name, there):
        """The list of the arcs with prices, (here, letter, there) each, of a way of the item that has its least three.

        What is without a price is not gone through, as it may be of any size.
        """
        arcs = []
        due = [(here, name, there)]
        while len(due) > 0:
            begin, symbol, end = due.pop()
            if is_name(symbol):
                if self.threes(begin, self._meet.bodies.part_of(symbol))[end][0] > 0:
                    due.extend(self._rule_and_symbols(begin, symbol, end)[1])
            elif dict(self._steps[symbol][begin])[end] > 0:
                arcs.append((begin, symbol, end))
        return arcs

    def _rule_and_symbols(self, here, name, there):
        """The rule at the root of a least tree of the item, and where its symbols lead, the last one first."""
        bodies = self._meet.bodies
        price, letters, rules = self.threes(here, bodies.part_of(name))[there]
        least = (price - self._meet.toll, letters, rules - self._meet.size)
        fitting = [pair for pair in bodies.wholes[name] if self.threes(here, pair[1]).get(there) == least]
        rule, beginning = fitting[0]
        return (rule, self.symbols_along(here, beginning, there))

    def symbols_along(self, here, beginning, there):
        """Where the symbols of a beginning lead on a least way: triples (from, symbol, to), the last one first."""
        bodies = self._meet.bodies
        found = []
        while beginning != 0:
            stop = self._stop(here, beginning, there)
            found.append((stop, bodies.lasts[beginning], there))
            there = stop
            beginning = bodies.befores[beginning]
        return found

    def _stop(self, here, beginning, there):
        """A state in which the last symbol of the beginning may begin, so that its least three comes out."""
        least = self.threes(here, beginning)[there]
        last = self._meet.bodies.lasts[beginning]
        before = self.threes(here, self._meet.bodies.befores[beginning])
        for stop, three in before.items():
            if self._is_sum(least, three, stop, last, there):
                return stop
        return None

    def _is_sum(self, least, three, stop, last, there):
        """Whether the three, and what the last symbol costs from the stop on, is the least one."""
        if is_name(last):
            other = self.threes(stop, self._meet.bodies.part_of(last)).get(there)
            return other is not None and sum_of(three, other) == least
        arcs = self._steps.get(last, {}).get(stop, [])
        size = self._meet.size
        return any([led == there and sum_of(three, (price, size, 0)) == least for led, price in arcs])

    def threes(self, here, part):
        """The dict from ends to threes for a part from a state."""
        if (here, part) not in self._known:
            settled = self._meet.threes_of(here, part)
            self._known[(here, part)] = {there: three for three, ends in settled for there in bits(ends)}
        return self._known[(here, part)]


def way_price(grammar, machine, here, name, there, thing):
    """The price of the way if thing is a way of the item with a tree, as a pair (tree, states); otherwise None."""
    ask_item(grammar, machine, here, name, there)
    count, arcs = machine
    if not is_tuple_of(thing, 2):
        return None
    tree, states = thing
    if name_of_tree(grammar, tree) != name or not are_below(states, count):
        return None
    letters = letters_of_tree(grammar, tree)
    if len(states) != len(letters) + 1 or states[0] != here or states[-1] != there:
        return None
    costs = {arc[:3]: arc[3] for arc in arcs}
    steps = [(states[k], letter, states[k + 1]) for k, letter in enumerate(letters)]
    if not all([step in costs for step in steps]):
        return None
    return sum([costs[step] for step in steps])
