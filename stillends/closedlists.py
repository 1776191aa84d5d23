"""The items that have ways, and lists of items that are closed."""

from stillends.bodies import all_bodies
from stillends.checks import is_below, is_tuple_of
from stillends.closures import Closure, Moves, bits
from stillends.grammars import is_name


def items_of(grammar, machine):
    """All items that have ways, ascending, those of useless names too."""
    bodies = all_bodies(grammar)
    return tuple(Closure(bodies, machine).items_told())


def closed_list(grammar, machine, items):
    """Whether items is a tuple of different items that are closed."""
    named = _named_sets(len(grammar[0]), machine[0], items)
    if named is None:
        return False
    bodies = all_bodies(grammar)
    moves = Moves(machine)
    return all([_is_closed_from(state, bodies, moves, named) for state in range(machine[0])])


def _named_sets(names, count, items):
    """For each state a dict from names to the set of states of its items; None if these are not different items."""
    if not isinstance(items, tuple):
        return None
    named = [{} for _ in range(count)]
    for item in items:
        if not is_tuple_of(item, 3):
            return None
        here, name, there = item
        if not is_below(here, count) or not is_below(name, names) or not is_below(there, count):
            return None
        ends = named[here].get(name, 0)
        if ends >> there & 1:
            return None
        named[here][name] = ends | 1 << there
    return named


def _is_closed_from(state, bodies, moves, named):
    """Whether each run from the state along a whole body leads to where the name of its rule leads, too."""
    reached = [1 << state]
    for beginning in range(1, bodies.many):
        states = reached[bodies.befores[beginning]]
        reached.append(_step(states, bodies.lasts[beginning], moves, named) if states > 0 else 0)
    for beginning, states in enumerate(reached):
        for name in bodies.ends[beginning]:
            if states & ~named[state].get(name, 0) > 0:
                return False
    return True


def _step(states, symbol, moves, named):
    """The states to which a letter's arcs, or a name's items, lead from a set of states."""
    if not is_name(symbol):
        return moves.step(states, symbol)
    reached = 0
    for state in bits(states):
        reached |= named[state].get(symbol, 0)
    return reached
