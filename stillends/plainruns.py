"""Runs that write tokens, one by one, so that they can always be ended in time."""

from stillends.checks import ask_short
from stillends.closures import text_machine
from stillends.endings import tight_way
from stillends.errors import Ended, NoEnding, NotLet
from stillends.letters import END, is_int
from stillends.masks import mask_of
from stillends.needing import Outlook
from stillends.tasks import letters_behind
from stillends.walks import stood_texts


class PlainRun:
    """A run that writes tokens, from the row () on, and then END."""

    def __init__(self, task, budget):
        ask_short(budget, "budget")
        outlook = Outlook(task)
        least = outlook.need()
        if least is None or least > budget:
            raise NoEnding()
        self._task = task
        self._budget = budget
        self._outlook = outlook
        self._row = []
        self._over = False
        # The mask of the row, None as long as it has not been asked for.
        self._mask = None

    def row(self):
        """The tokens written."""
        return tuple(self._row)

    def text(self):
        """The letters read behind the row; begun as long as these are fewer than its letters."""
        begun = self._task[3]
        letters = letters_behind(self._task, self._row)
        return letters if len(letters) >= len(begun) else begun

    def left(self):
        """How many tokens of the budget are left."""
        return self._budget - len(self._row)

    def ended(self):
        """Whether END was written."""
        return self._over

    def need(self):
        """The need of the row; 0 after the end."""
        return 0 if self._over else self._outlook.need()

    def choices(self):
        """The mask of the row with the tokens that are left; ((), False) after the end."""
        if self._over:
            return ((), False)
        if self._mask is None:
            self._mask = mask_of(self._outlook, self.left())
        return self._mask

    def looked(self):
        """The inner texts at which the writer may stand behind the row; () after the end."""
        if self._over:
            return ()
        return stood_texts(self._task[1], self._outlook.need(), self.left(), self.choices()[0])

    def tree(self):
        """A tree of the text with the fewest rules, None before the end."""
        if not self._over:
            return None
        text = self.text()
        return tight_way(self._task[0], text_machine(text, ()), self._outlook.openings(), 1 << len(text), 0)[0]

    def write(self, choice):
        """Writes a choice of the mask."""
        if self._over:
            raise Ended()
        fitting, may_end = self.choices()
        if not is_int(choice) or not (choice in fitting or choice == END and may_end):
            raise NotLet(choice)
        if choice == END:
            self._over = True
        else:
            self._outlook.write(choice)
            self._row.append(choice)
            self._mask = None
