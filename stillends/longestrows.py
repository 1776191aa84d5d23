"""The longest rows of a task, or what makes its rows ever longer."""

from stillends.closures import bits
from stillends.endless import Loops
from stillends.errors import TooMuch
from stillends.grammars import is_name
from stillends.itemtables import Items, Nodes
from stillends.limits import ROW_LIMIT


def longest(task):
    """("none", items) if no row is good; ("most", row, table); or ("endless", (outer, inner, tree))."""
    items = Items(task)
    start = task[0][1]
    goals = goal_ends(items, start)
    if goals == 0:
        return ("none", tuple(items.closure.items_told()))
    whole = items.bodies.part_of(start)
    nodes = Nodes(items.all_below([(0, whole, goals)]))
    rings = items.rings(nodes)
    loops = Loops(items, nodes)
    gain = loops.first_gain(rings)
    if gain is not None:
        return ("endless", loops.trees(gain, [(0, whole, there) for there in bits(goals)]))
    return _most(items, Peaks(items, rings), [(0, whole, there) for there in bits(goals)])


def goal_ends(items, start):
    """The set of the finals to which the start leads from the first place."""
    finals = sum([1 << place for place in items.ground.finals])
    return items.ends_of(0, start) & finals


def _most(items, peaks, goals):
    best = max([(peaks.most[node], node) for node in goals])
    if best[0] > ROW_LIMIT:
        raise TooMuch("row")
    many = items.bodies.many
    told = [(here, part - many, there, most) for (here, part, there), most in peaks.most.items() if part >= many]
    return ("most", peaks.row(best[1]), tuple(sorted(told)))


class Peaks:
    """The most tokens of the ways of nodes, none of which can be made ever longer.

    What has more tokens than are handed out counts as one more.
    """

    def __init__(self, items, rings):
        self._items = items
        # For each node the most tokens, and in which turn they were found: those of all that it needs were before.
        self.most = {}
        self._turns = {}
        # For each node in a ring with others one of these that is put together of what is outside alone.
        self._exits = {}
        # For each place dicts from parts to dicts from numbers of tokens to sets: of the ends, and of the begins.
        self._levels = [{} for _ in range(items.ground.many)]
        self._levels_from = [{} for _ in range(items.ground.many)]
        for turn, ring in enumerate(rings):
            self._settle(turn, ring)

    def _settle(self, turn, ring):
        """Finds the most tokens of nodes in a ring; going around adds none, so it is the same for all of them."""
        found = [(self._sum(node), node) for node in ring]
        most, leaving = max([pair for pair in found if pair[0] is not None])
        for node in ring:
            here, part, there = node
            self.most[node] = most
            self._turns[node] = turn
            self._exits[node] = leaving
            levels = self._levels[here].setdefault(part, {})
            levels[most] = levels.get(most, 0) | 1 << there
            levels = self._levels_from[there].setdefault(part, {})
            levels[most] = levels.get(most, 0) | 1 << here

    def _sum(self, node):
        """The most tokens of what a node is put together of, as far as it is found; None if nothing is."""
        here, part, there = node
        bodies = self._items.bodies
        if part >= bodies.many:
            wholes = [(here, whole, there) for _, whole in bodies.wholes[part - bodies.many]]
            return max([self.most[whole] for whole in wholes if whole in self.most], default=None)
        if part == 0:
            return 0
        last = bodies.lasts[part]
        ahead = self._levels[here].get(bodies.befores[part], {})
        if is_name(last):
            found = greatest_sum(ahead, self._levels_from[there].get(bodies.part_of(last), {}))
        else:
            found = greatest_sum(ahead, self._items.sources_of(last, there))
        return None if found is None else min(found, ROW_LIMIT + 1)

    def row(self, node):
        """The tokens of a way of the node with the most tokens."""
        row = []
        # What is still to be told, the next one last: nodes, and tokens.
        due = [node]
        while len(due) > 0:
            told = due.pop()
            if isinstance(told, int):
                row.append(told)
            elif self.most[told] > 0:
                due.extend(self._made_of(self._exits[told]))
        return tuple(row)

    def _made_of(self, node):
        """What a node with its most tokens is put together of outside of its ring, the last first: nodes, a token."""
        here, part, there = node
        bodies = self._items.bodies
        if part >= bodies.many:
            wholes = [(here, whole, there) for _, whole in bodies.wholes[part - bodies.many]]
            return [[whole for whole in wholes if self._adds_up(node, [whole], 0)][0]]
        last = bodies.lasts[part]
        for stop in bits(self._items.stops(node)):
            before = (here, bodies.befores[part], stop)
            if is_name(last):
                below = [(stop, bodies.part_of(last), there), before]
                if self._adds_up(node, below, 0):
                    return below
            else:
                token = dict(self._items.ground.steps[stop][last])[there]
                if self._adds_up(node, [before], 1 if token >= 0 else 0):
                    return [token, before] if token >= 0 else [before]
        return []

    def _adds_up(self, node, below, more):
        """Whether a node has just the most tokens of some that were found before it, and these more."""
        if not all([other in self._turns and self._turns[other] < self._turns[node] for other in below]):
            return False
        return sum([self.most[other] for other in below]) + more == self.most[node]


def greatest_sum(some, others):
    """The greatest sum of a number of each of two dicts from numbers to sets, whose sets have a common place."""
    sums = [one + two for one, ends in some.items() for two, begins in others.items() if ends & begins > 0]
    return max(sums, default=None)
