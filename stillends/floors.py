"""Tables of floors: what the ways of items cost at least."""

from stillends.bodies import all_bodies
from stillends.checks import is_below, is_tuple_of
from stillends.closures import bits
from stillends.errors import NotUsable
from stillends.letters import is_int, is_number


def floor_holds(grammar, machine, table):
    """Whether table is a table of floors, for the grammar and the machine, that holds."""
    count, arcs = machine
    if not _is_table(table) or not all([_is_item(row, count, len(grammar[0])) for row in table]):
        return False
    # Where a letter or a name leads: for each symbol and state a dict from integers to the set of the states led to.
    leads = {}
    for here, symbol, there, least in tuple(arcs) + table:
        sets = leads.setdefault(symbol, {}).setdefault(here, {})
        sets[least] = sets.get(least, 0) | 1 << there
    bodies = all_bodies(grammar)
    return all([_holds_from(state, bodies, leads) for state in range(count)])


def cut_table(table, most):
    """The table with the number most in the place of each integer above it."""
    if not _is_table(table):
        raise NotUsable("table")
    if not is_number(most):
        raise NotUsable("most")
    return tuple([(here, name, there, min(least, most)) for here, name, there, least in table])


def _is_table(thing):
    """Whether thing is a tuple of quadruples of three numbers and an integer, no two alike in the numbers."""
    if not isinstance(thing, tuple):
        return False
    known = {}
    for row in thing:
        if not is_tuple_of(row, 4) or not is_int(row[3]):
            return False
        item = row[:3]
        if not all([is_number(part) for part in item]) or item in known:
            return False
        known[item] = True
    return True


def _is_item(row, count, names):
    return is_below(row[0], count) and is_below(row[1], names) and is_below(row[2], count)


def _holds_from(state, bodies, leads):
    """Whether no run from the state along a whole body is below the floor for the name of its rule."""
    sums = [{0: 1 << state}]
    for beginning in range(1, bodies.many):
        before = sums[bodies.befores[beginning]]
        sums.append(_sums_behind(before, leads.get(bodies.lasts[beginning], {})))
    for beginning, least in enumerate(sums):
        for name in bodies.ends[beginning]:
            if not _are_above(least, leads.get(name, {}).get(state, {})):
                return False
    return True


def _sums_behind(sums, leads):
    """The dict from sums to sets of states behind one more symbol, each state with its least sum alone."""
    behind = {}
    for before, states in sums.items():
        for state in bits(states):
            for least, ends in leads.get(state, {}).items():
                behind[before + least] = behind.get(before + least, 0) | ends
    lesser = {}
    known = 0
    for total in sorted(behind):
        fresh = behind[total] & ~known
        if fresh > 0:
            lesser[total] = fresh
            known |= fresh
    return lesser


def _are_above(sums, floors):
    """Whether each state with a sum has a floor, and no greater one; both are dicts from integers to sets of states."""
    within = 0
    rest = sorted(floors, reverse=True)
    for total in sorted(sums):
        while len(rest) > 0 and rest[-1] <= total:
            within |= floors[rest.pop()]
        if sums[total] & ~within > 0:
            return False
    return True
