"""Machines: states with arcs that read letters and have prices."""

from stillends.checks import ask_below, ask_text, is_below, is_count, is_tuple_of
from stillends.errors import InvalidPaper
from stillends.letters import is_letter, is_number


def lets_machine(thing):
    """The count of states if thing is a machine; otherwise InvalidPaper for the first fault."""
    if not is_tuple_of(thing, 2):
        raise InvalidPaper("shape", -1)
    count, arcs = thing
    if not is_count(count) or not isinstance(arcs, tuple):
        raise InvalidPaper("shape", -1)
    for k, arc in enumerate(arcs):
        if not _is_arc(arc, count):
            raise InvalidPaper("arc", k)
        if k > 0 and arc <= arcs[k - 1]:
            raise InvalidPaper("order", k)
        if k > 0 and arc[:3] == arcs[k - 1][:3]:
            raise InvalidPaper("twice", k)
    return count


def _is_arc(thing, count):
    if not is_tuple_of(thing, 4):
        return False
    here, letter, there, price = thing
    return is_below(here, count) and is_letter(letter) and is_below(there, count) and is_number(price)


def text_price(machine, here, there, text):
    """The least price of the ways between the two states that read the text, None if there is none."""
    count, arcs = machine
    ask_below(here, count, "here")
    ask_below(there, count, "there")
    ask_text(text)
    steps = arcs_by_letter(arcs)
    prices = {here: 0}
    for letter in text:
        prices = _prices_behind(prices, steps.get(letter, {}))
    return prices.get(there)


def arcs_by_letter(arcs):
    """For each letter a dict that has for each state the list of (state, price) of the arcs from it by the letter."""
    steps = {}
    for here, letter, there, price in arcs:
        steps.setdefault(letter, {}).setdefault(here, []).append((there, price))
    return steps


def _prices_behind(prices, steps):
    """The least price at each state behind one more letter; steps has the arcs by it, for each state."""
    behind = {}
    for here, before in prices.items():
        for there, price in steps.get(here, []):
            if there not in behind or before + price < behind[there]:
                behind[there] = before + price
    return behind
