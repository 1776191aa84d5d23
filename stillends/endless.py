"""Loops that make rows ever longer: trees that can be put into themselves."""

from stillends.checks import is_below, is_tuple_of
from stillends.closures import Moves, bits
from stillends.errors import TooMuch
from stillends.grammars import is_name
from stillends.itemtables import Nodes, lowest
from stillends.leastways import LeastWays
from stillends.letters import is_int
from stillends.limits import TREE_LIMIT
from stillends.meets import Meet
from stillends.spellers import Ground
from stillends.trees import name_of_tree
from stillends.treetexts import letters_of_tree

# What stands in the place of the tree that was taken out of another one.
HOLE = -1

# Which of the two children of a node has letters: what is ahead of the stop, what is behind it, or either one.
_AHEAD = 0
_BEHIND = 1
_EITHER = 2


class Loops:
    """Nodes that are put together of themselves, with letters beside.

    A node is loud if it has a way that reads some letter. All those are that lead to another place.
    """

    def __init__(self, items, nodes):
        self._items = items
        self._nodes = nodes
        # For each place a dict from the parts that lead around to it, and are loud, to what makes them so: a whole
        # body, or a pair of a stop and which child has letters. What stands there was loud before.
        self._louds = [{} for _ in nodes.ends]
        for here in range(len(nodes.ends)):
            self._find_louds(here)

    def _find_louds(self, here):
        parts = [part for part, ends in self._nodes.ends[here].items() if ends >> here & 1 and part > 0]
        louds = self._louds[here]
        grown = True
        while grown:
            # Step by step, so that as few parts as can be stand below one another.
            hows = [(part, self._how_loud(here, part)) for part in parts if part not in louds]
            fresh = {part: how for part, how in hows if how is not None}
            louds.update(fresh)
            grown = len(fresh) > 0

    def _how_loud(self, here, part):
        """What makes a part loud that leads around to a place, as far as is known; None if nothing does."""
        bodies = self._items.bodies
        louds = self._louds[here]
        if part >= bodies.many:
            wholes = [whole for _, whole in bodies.wholes[part - bodies.many] if whole in louds]
            return wholes[0] if len(wholes) > 0 else None
        stops = self._items.stops((here, part, here))
        if not is_name(bodies.lasts[part]):
            return (lowest(stops), _EITHER)
        if stops & ~(1 << here) > 0:
            return (lowest(stops & ~(1 << here)), _EITHER)
        if bodies.befores[part] in louds:
            return (here, _AHEAD)
        return (here, _BEHIND) if bodies.part_of(bodies.lasts[part]) in louds else None

    def _is_loud(self, node):
        here, part, there = node
        return here != there or part in self._louds[here]

    def first_gain(self, rings):
        """A triple of a ring, a node in it and a child in it beside which letters can stand; None if there is none."""
        for ring in rings:
            if len(ring) > 1:
                inside = {node: True for node in ring}
                for node in ring:
                    child = self._gained_child(node, inside)
                    if child is not None:
                        return (ring, node, child)
        return None

    def _gained_child(self, node, inside):
        """A child of a node that is inside, beside which letters can stand; None if there is none."""
        here, part, there = node
        bodies = self._items.bodies
        if part >= bodies.many or part == 0:
            return None
        for stop in bits(self._items.stops(node)):
            ahead = (here, bodies.befores[part], stop)
            if not is_name(bodies.lasts[part]):
                if ahead in inside:
                    return ahead
                continue
            behind = (stop, bodies.part_of(bodies.lasts[part]), there)
            if ahead in inside and self._is_loud(behind):
                return ahead
            if behind in inside and self._is_loud(ahead):
                return behind
        return None

    def trees(self, gain, goals):
        """The trees of an endless answer, for a gain, in a way of one of the goals. TooMuch("tree")."""
        ring, node, child = gain
        inside = [{} for _ in self._nodes.ends]
        for here, part, there in ring:
            inside[here][part] = inside[here].get(part, 0) | 1 << there
        loop = self._path([child], node, inside)
        many = self._items.bodies.many
        first = [k for k, other in enumerate(loop) if other[1] >= many][0]
        around = loop[first:] + loop[:first] + [loop[first]]
        plans = [self._plan(self._path(goals, around[0], self._nodes.ends), None)]
        plans.append(self._plan(around, (node, child)))
        plans.append([around[0]])
        ways = self._least_ways([node for plan in plans for node in plan if not isinstance(node, int)])
        return tuple([self._grown(plan, ways) for plan in plans])

    def _path(self, starts, goal, ends):
        """A list of as few nodes as can be, each a child of the one before, from one of some nodes to the goal."""
        left = Nodes(ends)
        origins = {}
        for start in starts:
            left.take(start)
            origins[start] = None
        due = list(starts)
        at = 0
        while goal not in origins:
            here = due[at]
            at += 1
            child = self._items.first_child(here, left)
            while child is not None:
                left.take(child)
                origins[child] = here
                due.append(child)
                child = self._items.first_child(here, left)
        path = [goal]
        while origins[path[-1]] is not None:
            path.append(origins[path[-1]])
        return path[::-1]

    def _plan(self, path, gained):
        """What a tree consists of in which the last node of a path is taken out of the first one: a list.

        It has rules, nodes of which trees are to be put in, and the hole. gained is the pair of a node and its child
        on the path beside which letters have to stand, None if they need not.
        """
        bodies = self._items.bodies
        ahead = []
        behind = []
        for k in range(len(path) - 1):
            here, part, there = path[k]
            child = path[k + 1]
            beside = []
            if part >= bodies.many:
                ahead.append(self._rule_of(part, child[1]))
            elif child[1] >= bodies.many:
                beside = [(here, bodies.befores[part], child[0])]
            elif is_name(bodies.lasts[part]):
                beside = [(child[2], bodies.part_of(bodies.lasts[part]), there)]
            if len(beside) > 0 and gained == (path[k], child):
                beside = self._loud_plan(beside[0])
            if child[1] >= bodies.many:
                ahead.extend(beside)
            else:
                behind.append(beside)
        plan = ahead + [HOLE]
        for beside in behind[::-1]:
            plan.extend(beside)
        return plan

    def _rule_of(self, part, whole):
        """The number of the rule of a name that has this whole body."""
        bodies = self._items.bodies
        return [rule for rule, body in bodies.wholes[part - bodies.many] if body == whole][0]

    def _loud_plan(self, node):
        """What a loud node consists of so that it has letters, as in _plan."""
        bodies = self._items.bodies
        ahead = []
        behind = []
        while node[0] == node[2]:
            here, part, _ = node
            how = self._louds[here][part]
            if part >= bodies.many:
                ahead.append(self._rule_of(part, how))
                node = (here, how, here)
                continue
            stop, which = how
            named = []
            if is_name(bodies.lasts[part]):
                named = [(stop, bodies.part_of(bodies.lasts[part]), here)]
            if which == _AHEAD:
                behind.extend(named)
                node = (here, bodies.befores[part], stop)
                continue
            ahead.append((here, bodies.befores[part], stop))
            if which == _EITHER:
                return ahead + named + behind[::-1]
            node = named[0]
        return ahead + [node] + behind[::-1]

    def _grown(self, plan, ways):
        """The tree of a plan, with least trees, by numbers of rules, of its nodes. TooMuch("tree")."""
        nodes = [node for node in plan if not isinstance(node, int)]
        size = sum([ways.threes(here, part)[there][0] for here, part, there in nodes])
        if size + len([rule for rule in plan if isinstance(rule, int) and rule != HOLE]) > TREE_LIMIT:
            raise TooMuch("tree")
        tree = []
        for told in plan:
            if isinstance(told, int):
                tree.append(told)
            else:
                tree.extend(self._least_rules(told, ways))
        return tuple(tree)

    def _least_ways(self, nodes):
        """The ways of nodes with trees of as few rules as can be: each rule has the price 1, and no arc has any."""
        count, arcs = self._items.machine
        machine = (count, tuple([arc[:3] + (0,) for arc in arcs]))
        meet = Meet(self._items.bodies, machine, 0, self._nodes.ends, None, 1)
        for here, part, there in nodes:
            meet.settle_part(here, part, 1 << there)
        return LeastWays(meet, machine)

    def _least_rules(self, node, ways):
        """The list of the rules of the least trees of a node: of a name, or of all names of a beginning in sequence."""
        here, part, there = node
        bodies = self._items.bodies
        if part >= bodies.many:
            return list(ways.way(here, part - bodies.many, there)[0])
        rules = []
        for begin, symbol, end in ways.symbols_along(here, part, there)[::-1]:
            if is_name(symbol):
                rules.extend(ways.way(begin, symbol, end)[0])
        return rules


def shows_endless(task, thing):
    """Whether thing is the second element of an endless answer."""
    grammar = task[0]
    if not is_tuple_of(thing, 3):
        return False
    outer, inner, tree = thing
    name = name_of_tree(grammar, tree)
    if name is None:
        return False
    outside = _letters_about(grammar, outer, grammar[1], name)
    inside = _letters_about(grammar, inner, name, name)
    if outside is None or inside is None or len(inside[0]) + len(inside[1]) == 0:
        return False
    _, tokens, book, begun, mode = task
    ground = Ground(tokens, book, begun, mode)
    return _has_loop(ground, outside, inside, letters_of_tree(grammar, tree))


def _letters_about(grammar, thing, root, name):
    """The lists of the letters ahead of the hole and behind it if thing is a tree of the root in which a whole tree
    of the name is replaced by the hole; otherwise None."""
    rules = grammar[2]
    if not isinstance(thing, tuple):
        return None
    letters = []
    hole = None
    at = 0
    due = [root]
    while len(due) > 0:
        symbol = due.pop()
        if not is_name(symbol):
            letters.append(symbol)
            continue
        if at == len(thing):
            return None
        rule = thing[at]
        at += 1
        if is_int(rule) and rule == HOLE and hole is None and symbol == name:
            hole = len(letters)
        elif is_below(rule, len(rules)) and rules[rule][0] == symbol:
            due.extend(rules[rule][1][::-1])
        else:
            return None
    return None if hole is None or at < len(thing) else (letters[:hole], letters[hole:])


def _has_loop(ground, outside, inside, middle):
    """Whether there are places p and q between which the letters lead as an endless answer says."""
    moves = Moves(ground.priced())
    finals = sum([1 << place for place in ground.finals])
    fitting = {}
    for here in bits(_read_on(moves, 1, outside[0])):
        if _read_on(moves, 1 << here, inside[0]) >> here & 1:
            for there in bits(_read_on(moves, 1 << here, middle)):
                if there not in fitting:
                    around = _read_on(moves, 1 << there, inside[1]) >> there & 1 == 1
                    fitting[there] = around and _read_on(moves, 1 << there, outside[1]) & finals > 0
                if fitting[there]:
                    return True
    return False


def _read_on(moves, places, letters):
    """The set of the places to which a set of places leads by these letters."""
    for letter in letters:
        if places == 0:
            return 0
        places = moves.step(places, letter)
    return places
