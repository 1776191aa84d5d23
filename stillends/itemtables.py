"""The ways of a task's items, of names and of beginnings of bodies, and of what they are put together."""

from stillends.bodies import all_bodies
from stillends.closures import Closure, bits
from stillends.grammars import is_name
from stillends.spellers import Ground


class Nodes:
    """Nodes, triples (here, part, there), told by sets of places both ways; all in ends are there at first."""

    def __init__(self, ends):
        # For each place dicts from parts to sets: of the places that nodes lead to, and of those that lead to it.
        self.ends = [{part: there for part, there in parts.items()} for parts in ends]
        self.begins = [{} for _ in ends]
        for here, parts in enumerate(ends):
            for part, stops in parts.items():
                for there in bits(stops):
                    begins = self.begins[there]
                    begins[part] = begins.get(part, 0) | 1 << here

    def take(self, node):
        """Takes out a node that is there."""
        here, part, there = node
        self.ends[here][part] ^= 1 << there
        self.begins[there][part] ^= 1 << here

    def has(self, node):
        """Whether the node is there."""
        here, part, there = node
        return self.ends[here].get(part, 0) >> there & 1 == 1


class Items:
    """The ways of a grammar's parts, names and beginnings of bodies, between the places of a task.

    A node is a triple (here, part, there) that has a way. The children of a name are the whole bodies of its rules;
    those of a beginning are, for each stop where its last symbol may begin, what is ahead of the stop, and what is
    behind it if the symbol is a name.
    """

    def __init__(self, task):
        grammar, tokens, book, begun, mode = task
        self.ground = Ground(tokens, book, begun, mode)
        self.machine = self.ground.priced()
        self.bodies = all_bodies(grammar)
        self.closure = Closure(self.bodies, self.machine)
        # For each letter and price a dict from places to the set of those from which such an arc leads to them.
        self._sources = {}
        arcs = self.machine[1]
        for here, letter, there, price in arcs:
            sources = self._sources.setdefault(letter, {}).setdefault(price, {})
            sources[there] = sources.get(there, 0) | 1 << here
        # For each place a dict from names to the set of the places from which they lead to it.
        self._named_from = [{} for _ in range(self.ground.many)]
        for here, name, there in self.closure.items_told():
            named = self._named_from[there]
            named[name] = named.get(name, 0) | 1 << here

    def ends_of(self, here, name):
        """The set of the places to which a name leads."""
        return self.closure.named[here].get(name, 0)

    def sources_of(self, letter, there):
        """For each price the set of the places from which an arc by the letter, with this price, leads to a place."""
        return {price: sources.get(there, 0) for price, sources in self._sources.get(letter, {}).items()}

    def stops(self, node):
        """The set of the places at which the last symbol of a beginning, not the empty one, may begin."""
        here, part, there = node
        last = self.bodies.lasts[part]
        ahead = self._named_from[there].get(last, 0) if is_name(last) else 0
        if not is_name(last):
            for sources in self.sources_of(last, there).values():
                ahead |= sources
        return ahead & self.closure.reached[here].get(self.bodies.befores[part], 0)

    def all_below(self, goals):
        """The nodes of which some are put together, they too: for each place a dict from parts to sets of ends.

        goals are triples (here, part, set of ends) that have ways.
        """
        found = [{} for _ in range(self.ground.many)]
        due = list(goals)
        while len(due) > 0:
            here, part, ends = due.pop()
            fresh = ends & ~found[here].get(part, 0)
            if fresh > 0:
                found[here][part] = found[here].get(part, 0) | fresh
                due.extend(self._next_below(here, part, fresh))
        return found

    def _next_below(self, here, part, ends):
        """The triples (here, part, set of ends) of the children of nodes."""
        bodies = self.bodies
        reached = self.closure.reached[here]
        if part >= bodies.many:
            return [(here, whole, ends & reached.get(whole, 0)) for _, whole in bodies.wholes[part - bodies.many]]
        if part == 0:
            return []
        last = bodies.lasts[part]
        stops = 0
        below = []
        if is_name(last):
            for stop in bits(reached[bodies.befores[part]]):
                got = ends & self.ends_of(stop, last)
                if got > 0:
                    stops |= 1 << stop
                    below.append((stop, bodies.part_of(last), got))
        else:
            for there in bits(ends):
                stops |= self.stops((here, part, there))
        below.append((here, bodies.befores[part], stops))
        return below

    def first_child(self, node, nodes):
        """A child of the node that is one of these nodes, None if there is none."""
        here, part, there = node
        bodies = self.bodies
        if part >= bodies.many:
            wholes = [(here, whole, there) for _, whole in bodies.wholes[part - bodies.many]]
            return _first_of([whole for whole in wholes if nodes.has(whole)])
        if part == 0:
            return None
        stops = self.stops(node)
        some = stops & nodes.ends[here].get(bodies.befores[part], 0)
        if some > 0:
            return (here, bodies.befores[part], lowest(some))
        if is_name(bodies.lasts[part]):
            named = bodies.part_of(bodies.lasts[part])
            some = stops & nodes.begins[there].get(named, 0)
            if some > 0:
                return (lowest(some), named, there)
        return None

    def first_parent(self, node, nodes, among):
        """One of these nodes of which the node is a child, None if there is none; all are among some nodes with all
        their children."""
        here, part, there = node
        bodies = self.bodies
        if part >= bodies.many:
            for longer in bodies.uses[part - bodies.many]:
                some = nodes.begins[there].get(longer, 0) & among.begins[here].get(bodies.befores[longer], 0)
                if some > 0:
                    return (lowest(some), longer, there)
            return None
        open_ends = nodes.ends[here]
        for letter, longer in bodies.by_letter[part]:
            some = self.closure.moves.step(1 << there, letter) & open_ends.get(longer, 0)
            if some > 0:
                return (here, longer, lowest(some))
        for name, longer in bodies.by_name[part]:
            some = self.ends_of(there, name) & open_ends.get(longer, 0)
            if some > 0:
                return (here, longer, lowest(some))
        heads = [(here, bodies.part_of(name), there) for name in bodies.ends[part]]
        return _first_of([head for head in heads if nodes.has(head)])

    def rings(self, among):
        """The nodes in lists of those that are put together of one another, each list behind those that it needs.

        among are nodes with all their children.
        """
        finished = []
        unmet = Nodes(among.ends)
        for here, parts in enumerate(among.ends):
            for part, ends in parts.items():
                for there in bits(ends):
                    if unmet.has((here, part, there)):
                        self._finish((here, part, there), unmet, finished)
        left = Nodes(among.ends)
        rings = []
        for root in finished[::-1]:
            if left.has(root):
                rings.append(self._ring(root, left, among))
        return rings[::-1]

    def _finish(self, root, unmet, finished):
        """Goes deep first from a node to all that are not met yet; each is finished behind those it leads to first."""
        unmet.take(root)
        path = [root]
        while len(path) > 0:
            child = self.first_child(path[-1], unmet)
            if child is None:
                finished.append(path.pop())
            else:
                unmet.take(child)
                path.append(child)

    def _ring(self, root, left, among):
        """The list of a node and of the nodes left that lead to it; they are taken out."""
        left.take(root)
        ring = [root]
        due = [root]
        while len(due) > 0:
            parent = self.first_parent(due[-1], left, among)
            if parent is None:
                due.pop()
            else:
                left.take(parent)
                ring.append(parent)
                due.append(parent)
        return ring


def lowest(states):
    """The least state in a set that has one."""
    return (states & -states).bit_length() - 1


def _first_of(things):
    return things[0] if len(things) > 0 else None
