"""Machines that read all texts of a task at once, and bar those that tell whether tokens spell all of them."""

from stillends.checks import are_below, is_ascending, is_tuple_of
from stillends.closures import letters_of
from stillends.errors import NotUsable, TooMuch
from stillends.limits import STATE_LIMIT
from stillends.spellers import Ground


def machine_of(task, question):
    """The machine for the question, all of whose arcs have price 1, and the ascending tuple of its barred states."""
    if not is_question(task[1], question):
        raise NotUsable("question")
    return set_machine(task, question)


def is_question(tokens, thing):
    """Whether thing is a question about all texts of a task with these tokens."""
    if is_tuple_of(thing, 2):
        return thing[0] == "needless" and is_drop(tokens, thing[1])
    return isinstance(thing, str) and thing in ("spelled", "one")


def is_drop(tokens, thing):
    """Whether thing is an ascending tuple of numbers of tokens, not empty."""
    return are_below(thing, len(tokens)) and len(thing) > 0 and is_ascending(thing)


def set_machine(task, question):
    """What machine_of tells for a question; TooMuch("states")."""
    views = _views_for(task, question)
    letters = letters_of(task[0])
    first = views.first()
    numbers = {first: 0}
    states = [first]
    arcs = []
    at = 0
    while at < len(states):
        for letter in letters:
            found = views.behind(states[at], letter)
            for there in found:
                if there not in numbers:
                    if len(states) == STATE_LIMIT:
                        raise TooMuch("states")
                    numbers[there] = len(states)
                    states.append(there)
                arcs.append((at, letter, numbers[there], 1))
        at += 1
    barred = [number for number, state in enumerate(states) if views.is_barred(state)]
    return ((len(states), tuple(sorted(arcs))), tuple(barred))


def _views_for(task, question):
    _, tokens, book, begun, mode = task
    ground = Ground(tokens, book, begun, mode)
    if question == "spelled":
        return Spelling(ground, begun)
    return Pairing(ground) if question == "one" else Sparing(ground, question[1])


class Spelling:
    """For the texts that no row spells: how much of begun is passed, and all places that can be come to."""

    def __init__(self, ground, begun):
        self._ground = ground
        self._begun = begun

    def first(self):
        """What the first state stands for."""
        return (0, (0,))

    def behind(self, state, letter):
        """What the states stand for to which arcs by the letter lead, ascending."""
        passed, places = state
        if passed < len(self._begun):
            if letter != self._begun[passed]:
                return []
            passed += 1
        return [(passed, _led_to(self._ground, places, letter, ()))]

    def is_barred(self, state):
        """Whether begun is passed, and no place is a final."""
        return state[0] == len(self._begun) and not _has_final(self._ground, state[1])


class Pairing:
    """For the texts that two rows spell: the places of both, and whether the rows have parted."""

    def __init__(self, ground):
        self._ground = ground

    def first(self):
        """What the first state stands for."""
        return (0, 0, False)

    def behind(self, state, letter):
        """What the states stand for to which arcs by the letter lead, ascending."""
        place, other, parted = state
        some = self._ground.steps[place].get(letter, [])
        others = self._ground.steps[other].get(letter, [])
        found = {(one[0], two[0], parted or one[1] != two[1]) for one in some for two in others}
        return sorted(found)

    def is_barred(self, state):
        """Whether the rows have parted, and both places are finals."""
        return state[2] and _has_final(self._ground, state[:1]) and _has_final(self._ground, state[1:2])


class Sparing:
    """For the texts that no row spells without some tokens: a place, whether one of these was used, and all places
    that can be come to without them."""

    def __init__(self, ground, drop):
        self._ground = ground
        self._drop = drop

    def first(self):
        """What the first state stands for."""
        return (0, False, (0,))

    def behind(self, state, letter):
        """What the states stand for to which arcs by the letter lead, ascending."""
        place, used, places = state
        spared = _led_to(self._ground, places, letter, self._drop)
        steps = self._ground.steps[place].get(letter, [])
        found = {(there, used or token in self._drop, spared) for there, token in steps}
        return sorted(found)

    def is_barred(self, state):
        """Whether one of the tokens was used, the place is a final, and none of the places is."""
        place, used, places = state
        return used and _has_final(self._ground, (place,)) and not _has_final(self._ground, places)


def _led_to(ground, places, letter, drop):
    """The ascending tuple of the places to which arcs by the letter lead that finish no token in drop."""
    found = {there for place in places for there, token in ground.steps[place].get(letter, []) if token not in drop}
    return tuple(sorted(found))


def _has_final(ground, places):
    """Whether one of the places is a final."""
    return any([place in ground.finals for place in places])
