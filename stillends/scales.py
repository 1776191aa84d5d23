"""Rows of a task weighed by a writer: how many pairs of digits and trees come behind them."""

from stillends.countcharts import CountChart
from stillends.dots import Dots
from stillends.grounds import LOST, ahead_of, ground_of
from stillends.nulls import ask_no_loop
from stillends.sumledgers import SumLedger
from stillends.tails import Tails


class Scale:
    """A row of a task that can be gone on with, and how many pairs come behind it with up to so many tokens left.

    No useful name of the grammar may be looped.
    """

    def __init__(self, task, writer, most):
        grammar = task[0]
        dots = Dots(grammar)
        tails = Tails(True)
        self._tokens = task[1]
        self._writer = writer
        self._ground = ground_of(task)
        self._ledger = SumLedger(dots, tails, self._ground, writer, most)
        self._chart = CountChart(grammar, dots, tails)
        self._state = 0
        begins = dots.start in dots.roots and self._chart.reads(ahead_of(task))
        self._place = 0 if begins else LOST

    def write(self, token):
        """Writes the token behind the row."""
        if self._place != LOST:
            self._place = self._ground.led(self._place, token)
        if self._place != LOST and not self._chart.reads(self._tokens[token]):
            self._place = LOST
        self._state = self._writer[2][self._state][token]

    def total(self, left):
        """How many pairs there are of digits and a tree, with so many tokens left."""
        return 0 if self._place == LOST else self._total_at(self._place, self._state, left)

    def totals(self, left):
        """For each token the total behind the row with it, with so many tokens left behind that."""
        found = [0] * len(self._tokens)
        if self._place != LOST:
            self._look_on(self._place, left, found)
        return tuple(found)

    def trees(self):
        """How many trees of the grammar have the letters read as their text if the row is good; otherwise 0."""
        return self._chart.trees() if self._place in self._ground.finals else 0

    def shares(self):
        """The weights of the choices behind the row, that of END last."""
        return self._writer[1][self._state]

    def _total_at(self, place, state, left):
        point = place * len(self._writer[1]) + state
        aims = self._chart.aims()
        return sum([number * self._ledger.sums(dot, tail, point)[left] for dot, tail, number in aims])

    def _look_on(self, place, left, found):
        """Finds the totals behind each token that can be spelled from here on; tokens that begin alike together."""
        length = self._chart.length()
        for letter, arcs in self._ground.steps[place].items():
            if self._chart.push(letter):
                for there, token in arcs:
                    if token >= 0:
                        found[token] = self._total_at(there, self._writer[2][self._state][token], left)
                    else:
                        self._look_on(there, left, found)
                self._chart.cut(length)


def scale_at(task, writer, most, row):
    """The scale of a task at a row of any length, which is not checked; Looped if a name is looped."""
    ask_no_loop(task[0])
    scale = Scale(task, writer, most)
    for token in row:
        scale.write(token)
    return scale
