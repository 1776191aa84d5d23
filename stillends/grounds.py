"""The places of a task, and how letters and tokens lead from one to another."""

from stillends.spellers import speller

# In the place of the number of a place, where there is none that counts.
LOST = -1


def ground_of(task):
    """The places of a task as far as they count for what comes behind rows.

    In "behind" begun is read ahead of all tokens, so no place need tell how much of it has been passed:
    the places are those of a task in which nothing is begun.
    """
    _, tokens, book, begun, mode = task
    return Ground(tokens, book, "" if mode == "behind" else begun, mode)


def ahead_of(task):
    """What is read ahead of the tokens of a row."""
    _, _, _, begun, mode = task
    return begun if mode == "behind" else ""


class Ground:
    """Places by number, with their arcs."""

    def __init__(self, tokens, book, begun, mode):
        self._tokens = tokens
        self._begun = begun
        self._table = book[2]
        self._places, finals, self.arcs = speller(tokens, book, begun, mode)
        self._numbers = {place: k for k, place in enumerate(self._places)}
        self.many = len(self._places)
        self.finals = {place: True for place in finals}
        # For each place and letter the list of (place, token) of the arcs from it, token -1 if none is finished.
        self.steps = _steps_of(self.many, self.arcs)

    def priced(self):
        """The machine of the places in which an arc costs 1 if it finishes a token, else 0."""
        arcs = [(here, letter, there, 1 if token >= 0 else 0) for here, letter, there, token in self.arcs]
        return (self.many, tuple(arcs))

    def led(self, place, token):
        """The place to which a token leads from one at which tokens begin; LOST if it leads to none."""
        passed, state, _ = self._places[place]
        text = self._tokens[token]
        state = self._table[state][token]
        after = min(len(self._begun), passed + len(text))
        if state < 0 or self._begun[passed:after] != text[: after - passed]:
            return LOST
        return self._numbers[(after, state, "")]


def _steps_of(many, arcs):
    steps = [{} for _ in range(many)]
    for here, letter, there, token in arcs:
        steps[here].setdefault(letter, []).append((there, token))
    return steps
