"""Drafted runs: a draft proposes choices, and the outcomes are those of good pairs."""

from stillends.checks import ask_below, ask_short
from stillends.couples import coupled
from stillends.errors import Ended, NoTape
from stillends.letters import END
from stillends.stepweights import weights_at
from stillends.totals import scale_at


class Drafted:
    """An object that writes the row of a good pair, from () on, and then END."""

    def __init__(self, task, writer, budget, draft):
        ask_short(budget, "budget")
        scale = scale_at(task, writer, budget, ())
        if scale.total(budget) == 0:
            raise NoTape()
        self._scale = scale
        self._writer = writer
        self._budget = budget
        self._draft = draft
        self._row = ()
        # The state of the draft behind the row, and the target there.
        self._state = 0
        self._target = weights_at(scale, writer, budget, ())
        self._over = False

    def row(self):
        """The tokens written."""
        return self._row

    def ended(self):
        """Whether END was written."""
        return self._over

    def total(self):
        """How many numbers may be proposed with; 0 after the end."""
        return 0 if self._over else sum(self._target) * self._draft[0]

    def propose(self, number):
        """Writes the outcome of a number, and returns the proposal and the outcome."""
        if self._over:
            raise Ended()
        ask_below(number, self.total(), "number")
        proposal, outcome = coupled(self._target, self._draft[1][self._state], number)
        last = len(self._target) - 1
        if outcome == last:
            self._over = True
        else:
            self._row = self._row + (outcome,)
            self._state = self._draft[2][self._state][outcome]
            self._scale.write(outcome)
            self._target = weights_at(self._scale, self._writer, self._budget, self._row)
        return (END if proposal == last else proposal, END if outcome == last else outcome)
