"""Whether tokens can spell all texts of a task; and what shows such things of all texts at once."""

from stillends.bodies import all_bodies
from stillends.closures import Closure, bits
from stillends.endings import paid_arcs
from stillends.errors import TooMuch
from stillends.limits import SHORT_LIMIT
from stillends.meets import Meet
from stillends.setmachines import set_machine


def spelled_all(task):
    """("all", items) if each text that begins with begun has a good row; otherwise ("none", text, table)."""
    text, proof = shortest_barred(task, "spelled")
    return ("all", proof) if text is None else ("none", text, proof)


def shortest_barred(task, question):
    """A shortest text that leads to a barred state of the machine for the question, and a table of floors.

    The table shows that no text with fewer letters does. If no text does the two are None and closed items.
    TooMuch("states"); TooMuch("text").
    """
    machine, barred = set_machine(task, question)
    grammar = task[0]
    start = grammar[1]
    closure = Closure(all_bodies(grammar), machine)
    goals = closure.named[0].get(start, 0) & sum([1 << state for state in barred])
    if goals == 0:
        return (None, tuple(closure.items_told()))
    meet = Meet(closure.bodies, machine, 0, None, [SHORT_LIMIT] * machine[0])
    least = meet.settle(0, start, goals)
    if least is None:
        raise TooMuch("text")
    length = least[0][0]
    text = "".join([letter for _, letter, _ in paid_arcs(grammar, machine, 0, start, goals, length)])
    return (text, _floors(closure, machine, length))


def _floors(closure, machine, most):
    """The table of the least prices of all items that have ways, with most in the place of each above it."""
    bodies = closure.bodies
    meet = Meet(bodies, machine, 0, None, [most - 1] * machine[0])
    meet.settle_all(list(range(machine[0])))
    table = []
    for here, named in enumerate(closure.named):
        for name, ends in named.items():
            rest = ends
            for three, some in meet.threes_of(here, bodies.part_of(name)):
                table.extend([(here, name, there, three[0]) for there in bits(some)])
                rest &= ~some
            table.extend([(here, name, there, most) for there in bits(rest)])
    return tuple(sorted(table))
