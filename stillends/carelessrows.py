"""Careless writers, that look at beginnings alone: what they let, and whether they can get lost."""

from heapq import heappop, heappush

from stillends.checks import ask_row
from stillends.errors import TooMuch
from stillends.letters import END
from stillends.limits import ROW_LIMIT, STATE_LIMIT
from stillends.needing import outlook_at
from stillends.positions import Positions, written
from stillends.predicting import ask_one_way


def careless_choices(task, row):
    """The choices that a careless writer lets at the row, ascending."""
    ask_row(task[1], row)
    outlook = outlook_at(task, row)
    return ((END,) if outlook.is_good() else ()) + tuple(outlook.begun_by())


def careless(task):
    """Begins with "never" if no careless row is lost, otherwise with "lost"; and what shows it."""
    ask_one_way(task[0])
    if outlook_at(task, ()).need() is None:
        return ("lost", (), ())
    positions = Positions(task)
    leads = _all_moves(positions)
    barred = {position: True for position in leads if positions.is_barred(position)}
    if len(barred) == 0:
        return ("never", tuple([written(position) for position in leads]))
    costs, origins, goal = _least_costs(positions.firsts(), leads, barred)
    most = costs[goal]
    if most > ROW_LIMIT:
        raise TooMuch("row")
    table = [written(position) + (cost,) for position, cost in costs.items() if cost < most]
    return ("lost", _row_to(positions, goal, costs, origins), tuple(table))


def _all_moves(positions):
    """The moves from each position, for the first ones and all to which moves lead from these."""
    due = positions.firsts()
    leads = {position: None for position in due}
    while len(due) > 0:
        position = due.pop()
        moves = positions.moves_from(position)
        leads[position] = moves
        for _, there in moves:
            if there not in leads:
                leads[there] = None
                due.append(there)
        if len(leads) > STATE_LIMIT:
            raise TooMuch("states")
    return leads


def _least_costs(firsts, leads, goals):
    """The least costs of positions, up to the least one of a goal; for each whence it is reached; and this goal."""
    offers = {position: 0 for position in firsts}
    origins = {}
    costs = {}
    queue = [(0, position) for position in firsts]
    while len(queue) > 0:
        cost, here = heappop(queue)
        if here in costs:
            continue
        costs[here] = cost
        if here in goals:
            return (costs, origins, here)
        for price, there in leads[here]:
            if there not in offers or cost + price < offers[there]:
                offers[there] = cost + price
                origins[there] = here
                heappush(queue, (cost + price, there))
    return (costs, origins, None)


def _row_to(positions, goal, costs, origins):
    """The tokens that are finished on the way to a position."""
    path = [goal]
    while path[-1] in origins:
        path.append(origins[path[-1]])
    path = path[::-1]
    row = []
    for k in range(len(path) - 1):
        price = costs[path[k + 1]] - costs[path[k]]
        row.extend(positions.tokens_between(path[k], path[k + 1], price))
    return tuple(row)
