"""What there is to tell of all good pairs of a task, kept for one writer and one budget."""

from stillends.checks import ask_row, ask_short
from stillends.errors import NoTape
from stillends.firsttrees import own_one
from stillends.goodpairs import are_good_pair
from stillends.meanlengths import mean_at
from stillends.pairnumbers import ask_number, pair_of, rank_at, tape_at
from stillends.stepweights import pairs_at, weights_at
from stillends.totals import scale_at
from stillends.treenumbers import rank_of


class Steered:
    """An object that tells of the good pairs, of which there is at least one."""

    def __init__(self, task, writer, budget):
        ask_short(budget, "budget")
        scale = scale_at(task, writer, budget, ())
        if scale.total(budget) == 0:
            raise NoTape()
        self._task = task
        self._writer = writer
        self._budget = budget
        # What has been found for one row serves others, so all rows are gone to on one scale.
        self._scale = scale

    def total(self):
        """How many good pairs there are."""
        return self._scale_at(()).total(self._budget)

    def weights(self, row):
        """What step_weights tells of the row."""
        ask_row(self._task[1], row)
        return weights_at(self._scale_at(row), self._writer, self._budget, row)

    def row_pairs(self, row):
        """How many good pairs say the row."""
        ask_row(self._task[1], row)
        return pairs_at(self._scale_at(row), self._writer, self._budget, row)

    def nth(self, k):
        """Good pair number k."""
        return pair_of(self._task, self._writer, self._tape(k))

    def rank(self, tape, tree):
        """The number of the good pair, None if the two are none."""
        if not are_good_pair(self._task, self._writer, self._budget, tape, tree):
            return None
        return rank_at(self._scale_at(()), self._writer, self._budget, tape) + rank_of(self._task[0], tree)

    def own_tape(self, k):
        """The tape of good pair number k if its tree is the first one of its text, otherwise None."""
        return own_one(self._tape(k))

    def mean_length(self):
        """The mean number of tokens of the rows that the good pairs say."""
        return mean_at(self._scale_at(()), self._writer, self._budget)

    def _scale_at(self, row):
        """The scale, at the row."""
        self._scale.go_to(row)
        return self._scale

    def _tape(self, k):
        ask_number(k)
        return tape_at(self._scale_at(()), self._writer, self._budget, k)
