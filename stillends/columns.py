"""What all charts have in common: columns, one for each place in a text, and what is asked to come behind them."""

from stillends.dots import OVER


class Column:
    """What has been read of which bodies up to one place in a text."""

    def __init__(self):
        # For each dot where its body began; first for the dots to which the last letter itself led, and for the
        # names that it finished. How that is told is up to the chart.
        self.fresh = {}
        self.done = {}
        self.begins = {}
        # How many trees of the grammar have all that has been read as their text; just 1 if that does not count.
        self.readings = 0
        # For each name that may begin here what goes on behind it, and the tail that comes of it; None as long as
        # they have not been asked for.
        self.calls = None
        self.tails = None


class Columns:
    """A text that may be gone on with and cut, and that some text of a grammar begins with.

    A chart is such a text. A name that comes last in a body goes on, behind itself, with what goes on behind that
    body: so names that end together are ended at once, and need not be noted one by one.
    """

    def __init__(self, dots, tails):
        self._dots = dots
        self._tails = tails
        self._columns = [Column()]
        self._sealed = 0

    def length(self):
        """How many letters have been read."""
        return len(self._columns) - 1

    def cut(self, many):
        """Goes back to the first so many letters."""
        del self._columns[many + 1 :]
        self._sealed = min(self._sealed, many + 1)

    def reads(self, text):
        """Reads a text, or nothing of it if no text of the grammar goes on with it; tells whether one does."""
        before = self.length()
        for letter in text:
            if not self.push(letter):
                self.cut(before)
                return False
        return True

    def push(self, letter):
        """Reads a letter if some text of the grammar goes on with it; tells whether one does."""
        column = Column()
        self._step(self.length(), column, letter)
        if len(column.fresh) + len(column.done) == 0:
            return False
        self._close(column)
        self._columns.append(column)
        return True

    def _calls(self, here):
        """For each name that may begin at a place what goes on behind it; OVER if the whole text may end with it."""
        column = self._columns[here]
        if column.calls is None:
            column.calls = self._found_calls(here)
        return column.calls

    def aims(self):
        """The list of triples (dot, tail, number): what may have to come, and in how many ways.

        That is what stands behind the dot, and then what the tail asks for.
        """
        last = self.length()
        if last == 0:
            return [(self._dots.roots[self._dots.start], 0, 1)]
        for here in range(self._sealed, last):
            self._find_tails(here)
        self._sealed = max(self._sealed, last)
        column = self._columns[last]
        found = {}
        for dot, begins in column.fresh.items():
            self._note_aims(found, dot, self._dots.heads[dot], begins)
        for name, begins in column.done.items():
            self._note_aims(found, OVER, name, begins)
        return [(dot, tail, number) for (dot, tail), number in found.items()]

    def _find_tails(self, here):
        """Finds the tails of the names that may begin at a place; those at places ahead of it are found."""
        calls = self._calls(here)
        column = self._columns[here]
        column.tails = {}
        for part in self._dots.left_parts:
            names = [name for name in part if name in calls]
            if len(names) > 0:
                outer = {name: {} for name in names}
                inner = {name: {} for name in names}
                for name in names:
                    self._note_terms(here, calls[name], outer[name], inner[name], outer)
                column.tails.update(self._tails.for_names(outer, inner))
