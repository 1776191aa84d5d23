"""The needs of rows, by stands."""

from stillends.checks import ask_row
from stillends.dots import Dots, OVER, Tails
from stillends.ledgers import Ledger
from stillends.spellers import LOST, ahead_of, ground_of
from stillends.stands import OneWay, stacked


def quick_need(task, row):
    """The need of the row, None if it is lost."""
    ask_row(task[1], row)
    lead = Lead(task)
    return lead.need(lead.at_row(row))


def quick_needs(task, row):
    """The needs of the row with one more token, token by token."""
    ask_row(task[1], row)
    lead = Lead(task)
    return lead.needs(lead.at_row(row))


class Lead:
    """A task whose grammar reads one way; what is found of it is kept, as it never changes."""

    def __init__(self, task):
        grammar = task[0]
        self.one_way = OneWay(grammar)
        self.led_task = task
        self.ground = ground_of(task)
        self._dots = Dots(grammar)
        self._tails = Tails(False)
        self._ledger = Ledger(self._dots, self._tails, self.ground)
        cell = self.one_way.first()
        self._outset = self._stance(LOST if cell is None else 0, cell, ahead_of(task))

    def first(self):
        """The stance of the row ()."""
        return self._outset

    def after(self, stance, token):
        """The stance behind one more token."""
        place = LOST if stance.place == LOST else self.ground.led(stance.place, token)
        return self._stance(place, stance.cell, self.led_task[1][token])

    def at_row(self, row):
        """The stance of a row of any length, which is not checked."""
        stance = self.first()
        for token in row:
            stance = self.after(stance, token)
        return stance

    def _stance(self, place, cell, text):
        """The stance at a place that comes of reading a text behind a stand."""
        if place == LOST:
            return Stance(LOST, None, [])
        pieces = []
        for letter in text:
            pushed = self.one_way.pushed(cell, letter)
            if pushed is None:
                return Stance(LOST, None, [])
            cell = pushed[0]
            pieces.extend(pushed[1])
        return Stance(place, cell, pieces)

    def need(self, stance):
        """The need of a row."""
        return None if stance.place == LOST else self.least(stance.cell, stance.place)

    def needs(self, stance):
        """The needs of a row with one more token, token by token."""
        found = [None] * len(self.led_task[1])
        if stance.place != LOST:
            self._look_on(stance.place, stance.cell, found)
        return tuple(found)

    def _look_on(self, place, cell, found):
        """Finds the needs behind each token that can be spelled from here on; tokens that begin alike together."""
        for letter, arcs in self.ground.steps[place].items():
            pushed = self.one_way.pushed(cell, letter)
            if pushed is None:
                continue
            for there, token in arcs:
                if token >= 0:
                    found[token] = self.least(pushed[0], there)
                else:
                    self._look_on(there, pushed[0], found)

    def least(self, cell, place):
        """The least number of tokens that it takes from a place to read what a stand derives; None if it cannot be."""
        if place in self.ground.finals and self.one_way.may_end(cell):
            return 0
        return self._ledger.least(OVER, self._tail_of(cell), place)

    def _tail_of(self, cell):
        """The tail that asks for what a stand derives."""
        cells = []
        below = cell
        while below is not None and below.tail is None:
            cells.append(below)
            below = below.below
        tail = 0 if below is None else below.tail
        for asked in cells[::-1]:
            tail = self._tails.behind(self._dots.dot_of(asked.top), tail)
            asked.tail = tail
        return tail

    def rule_cells(self, cell):
        """For a stand with a name on top the list of pairs of a rule of it, and the stand with its body instead."""
        grammar = self.led_task[0]
        return [(rule, stacked(grammar[2][rule][1], cell.below)) for rule in self.one_way.rules_from[cell.top]]


class Stance:
    """Where a row leads to: the place, the cell of its stand, and the pieces read.

    The pieces are those that the last token led to, or for the row () those of what is read ahead of it. The
    place is LOST if there is none, or no stand.
    """

    def __init__(self, place, cell, pieces):
        self.place = place
        self.cell = cell
        self.pieces = pieces
