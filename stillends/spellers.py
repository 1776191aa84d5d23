"""Places and arcs: how tokens spell texts letter by letter."""

from stillends.books import state_after
from stillends.checks import ask_row
from stillends.tokenlists import joined
from stillends.tries import spelled_on

# In the place of the number of a place, where there is none that counts.
LOST = -1


def speller(tokens, book, begun, mode):
    """The places by number, the numbers of the finals among them, and the arcs from them."""
    known = _places_and_arcs(tokens, book, begun, mode)
    places = sorted(known, key=lambda place: (place[0], len(place[2]), place[2], place[1]))
    numbers = {place: k for k, place in enumerate(places)}
    finals = [numbers[place] for place in places if _is_final(place, book, begun)]
    arcs = []
    for here in places:
        arcs.extend([(numbers[here], letter, numbers[there], token) for letter, there, token in known[here]])
    return (tuple(places), tuple(finals), tuple(sorted(arcs)))


def _places_and_arcs(tokens, book, begun, mode):
    """The start and the places to which arcs lead from it, each with the list of its arcs."""
    ways = spelled_on(tokens)
    start = (0, 0, "")
    known = {start: []}
    due = [start]
    while len(due) > 0:
        place = due.pop()
        arcs = _arcs_from(place, ways, book[2], begun, mode)
        known[place] = arcs
        for arc in arcs:
            there = arc[1]
            if there not in known:
                known[there] = []
                due.append(there)
    return known


def _arcs_from(place, ways, table, begun, mode):
    """The arcs from a place, as triples of a letter, the place led to and a token."""
    passed, state, written = place
    if mode == "behind" and passed < len(begun):
        return [(begun[passed], (passed + 1, 0, ""), -1)]
    after = min(len(begun), passed + 1)
    arcs = []
    for letter, inner, token in ways[written]:
        # In "healed" the letters of begun are spelled anew, so each has to be the next one.
        if passed < len(begun) and letter != begun[passed]:
            continue
        if inner:
            arcs.append((letter, (after, state, written + letter), -1))
        if token >= 0 and table[state][token] >= 0:
            arcs.append((letter, (after, table[state][token], ""), token))
    return arcs


def _is_final(place, book, begun):
    passed, state, written = place
    return passed == len(begun) and written == "" and state in book[1]


def place_behind(tokens, book, begun, mode, row):
    """The place behind the row, None if there is none."""
    ask_row(tokens, row)
    return border_behind(tokens, book, begun, mode, row)


def border_behind(tokens, book, begun, mode, row):
    """What place_behind tells, for a row of any length, which is not checked."""
    state = state_after(book, row)
    if state < 0:
        return None
    if mode == "behind":
        return (len(begun), state, "")
    text = joined(tokens, row)
    passed = min(len(begun), len(text))
    if text[:passed] != begun[:passed]:
        return None
    return (passed, state, "")


def priced(tokens, book, begun, mode):
    """The priced machine of a task with these: an arc costs 1 if it finishes a token, else 0."""
    places, _, arcs = speller(tokens, book, begun, mode)
    costs = [(here, letter, there, 1 if token >= 0 else 0) for here, letter, there, token in arcs]
    return (len(places), tuple(costs))


def ground_of(task):
    """The places of a task as far as they count for what comes behind rows.

    In "behind" begun is read ahead of all tokens, so no place need tell how much of it has been passed:
    the places are those of a task in which nothing is begun.
    """
    _, tokens, book, begun, mode = task
    return Ground(tokens, book, "" if mode == "behind" else begun, mode)


def ahead_of(task):
    """What is read ahead of the tokens of a row."""
    _, _, _, begun, mode = task
    return begun if mode == "behind" else ""


class Ground:
    """Places by number, with their arcs."""

    def __init__(self, tokens, book, begun, mode):
        self._tokens = tokens
        self._begun = begun
        self._mode = mode
        self._table = book[2]
        self._places, finals, self.arcs = speller(tokens, book, begun, mode)
        self._numbers = {place: k for k, place in enumerate(self._places)}
        self.many = len(self._places)
        self.finals = {place: True for place in finals}
        # For each place and letter the list of (place, token) of the arcs from it, token -1 if none is finished.
        self.steps = _steps_of(self.many, self.arcs)

    def priced(self):
        """The machine of the places in which an arc costs 1 if it finishes a token, else 0."""
        arcs = [(here, letter, there, 1 if token >= 0 else 0) for here, letter, there, token in self.arcs]
        return (self.many, tuple(arcs))

    def is_border(self, place):
        """Whether the place is a border: no token is being spelled there, and in "behind" begun has been passed."""
        passed, _, written = self._places[place]
        return written == "" and (self._mode != "behind" or passed == len(self._begun))

    def led(self, place, token):
        """The place to which a token leads from one at which tokens begin; LOST if it leads to none."""
        passed, state, _ = self._places[place]
        text = self._tokens[token]
        state = self._table[state][token]
        after = min(len(self._begun), passed + len(text))
        if state < 0 or self._begun[passed:after] != text[: after - passed]:
            return LOST
        return self._numbers[(after, state, "")]


def _steps_of(many, arcs):
    steps = [{} for _ in range(many)]
    for here, letter, there, token in arcs:
        steps[here].setdefault(letter, []).append((there, token))
    return steps
