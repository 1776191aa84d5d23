"""The needs of rows: how many tokens it takes at least to end them."""

from stillends.charts import Chart
from stillends.checks import ask_row
from stillends.dots import Dots, Tails
from stillends.ledgers import Ledger
from stillends.spellers import LOST, ahead_of, ground_of


def need(task, row):
    """The least number of tokens of an ending of the row, None if it is lost."""
    ask_row(task[1], row)
    return outlook_at(task, row).need()


def needs(task, row):
    """The needs of the row with one more token, token by token."""
    ask_row(task[1], row)
    return outlook_at(task, row).needs()


def outlook_at(task, row):
    """The outlook of a task at a row of any length, which is not checked."""
    outlook = Outlook(task)
    outlook.go_to(row)
    return outlook


class Outlook:
    """A row of a task that can be gone on with and cut, and its needs; the row may have any length."""

    def __init__(self, task):
        dots = Dots(task[0])
        tails = Tails(False)
        self._tokens = task[1]
        self._ground = ground_of(task)
        self._ledger = Ledger(dots, tails, self._ground)
        self._chart = Chart(dots, tails)
        self._row = []
        begins = dots.start in dots.roots and self._chart.reads(ahead_of(task))
        # Behind each beginning of the row the place, and how many letters the chart has read.
        self._spots = [(0 if begins else LOST, self._chart.length())]

    def go_to(self, row):
        """Takes this row in the place of the one that was there."""
        same = 0
        while same < min(len(row), len(self._row)) and row[same] == self._row[same]:
            same += 1
        del self._row[same:]
        del self._spots[same + 1 :]
        self._chart.cut(self._spots[-1][1])
        for token in row[same:]:
            self.write(token)

    def write(self, token):
        """Writes the token behind the row."""
        place, length = self._spots[-1]
        self._row.append(token)
        if place != LOST:
            place = self._ground.led(place, token)
        if place != LOST and not self._chart.reads(self._tokens[token]):
            place = LOST
        self._spots.append((place, self._chart.length()))

    def spot(self):
        """The number of the place behind the row, LOST if none is there or no text begins with the letters read."""
        return self._spots[-1][0]

    def is_begun(self):
        """Whether some text of the grammar begins with the letters read, and a place is behind the row."""
        return self.spot() != LOST

    def openings(self):
        """How many letters have been read where a name may begin: an ascending list."""
        return self._chart.openings()

    def is_good(self):
        """Whether the row is good."""
        return self.spot() != LOST and self._is_end(self.spot())

    def need(self):
        """The need of the row."""
        return None if self.spot() == LOST else self._need_at(self.spot())

    def needs(self):
        """The needs of the row with one more token, token by token."""
        found = [None] * len(self._tokens)
        if self.spot() != LOST:
            self._look_on(self.spot(), found)
        return tuple(found)

    def begun_by(self):
        """The tokens, ascending, with which the letters read begin some text of the grammar, and a place is behind."""
        found = []
        if self.spot() != LOST:
            self._spell_on(self.spot(), found)
        return sorted(found)

    def _is_end(self, place):
        return place in self._ground.finals and self._chart.is_whole()

    def _need_at(self, place):
        """The least number of tokens that end what has been read, from a place at which a token may begin."""
        if self._is_end(place):
            return 0
        numbers = [self._ledger.least(dot, tail, place) for dot, tail, _ in self._chart.aims()]
        return min([number for number in numbers if number is not None], default=None)

    def _look_on(self, place, found):
        """Finds the needs behind each token that can be spelled from here on; tokens that begin alike together."""
        length = self._chart.length()
        for letter, arcs in self._ground.steps[place].items():
            if self._chart.push(letter):
                for there, token in arcs:
                    if token >= 0:
                        found[token] = self._need_at(there)
                    else:
                        self._look_on(there, found)
                self._chart.cut(length)

    def _spell_on(self, place, found):
        """Notes the tokens that can be spelled from here on, as far as some text goes on with them."""
        length = self._chart.length()
        for letter, arcs in self._ground.steps[place].items():
            if self._chart.push(letter):
                for there, token in arcs:
                    if token >= 0:
                        found.append(token)
                    else:
                        self._spell_on(there, found)
                self._chart.cut(length)
