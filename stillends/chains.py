"""Machines with the letters of a text ahead of one of their states."""

from stillends.checks import ask_below, ask_text


def chained(machine, state, text):
    """The machine with a chain of new states that reads the text up to the state, and the state where it begins."""
    count, arcs = machine
    ask_below(state, count, "state")
    ask_text(text)
    if text == "":
        return ((count, tuple(arcs)), state)
    many = count + len(text)
    links = [(count + k, letter, count + k + 1, 0) for k, letter in enumerate(text[:-1])]
    links.append((many - 1, text[-1], state, 0))
    return ((many, tuple(arcs) + tuple(links)), count)
