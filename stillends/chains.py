"""Machines with the letters of a text ahead of one of their states."""

from stillends.checks import ask_below, ask_text


def chained(machine, state, text):
    """The machine with a chain of new states that reads the text up to the state, and the state where it begins."""
    ask_below(state, machine[0], "state")
    ask_text(text)
    return linked(machine, state, text)


def linked(machine, state, text):
    """What chained tells, for a text of any length, which is not checked."""
    count, arcs = machine
    if text == "":
        return ((count, tuple(arcs)), state)
    many = count + len(text)
    links = [(count + k, letter, count + k + 1, 0) for k, letter in enumerate(text[:-1])]
    links.append((many - 1, text[-1], state, 0))
    return ((many, tuple(arcs) + tuple(links)), count)
