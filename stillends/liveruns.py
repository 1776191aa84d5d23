"""Runs led by a guide, that tell by stands what a plain run tells, and more."""

from stillends.checks import ask_short, is_below
from stillends.errors import Ended, NoEnding, NotLet, NotUsable
from stillends.letters import END, is_int
from stillends.masks import fitting_tokens
from stillends.quickneeds import Lead
from stillends.surerules import rules_ahead
from stillends.suretexts import text_ahead
from stillends.tasks import letters_behind
from stillends.walks import stood_texts


class Run:
    """A run that writes a row for the task of a guide, choice by choice, from () on, and then END."""

    def __init__(self, guide, budget):
        if not isinstance(guide, Lead):
            raise NotUsable("guide")
        ask_short(budget, "budget")
        stance = guide.first()
        least = guide.need(stance)
        if least is None or least > budget:
            raise NoEnding()
        self._guide = guide
        self._budget = budget
        self._row = []
        # The stances of all beginnings of the row.
        self._stances = [stance]
        self._over = False
        # The mask of the row, None as long as it has not been asked for.
        self._mask = None

    def row(self):
        """The tokens written."""
        return tuple(self._row)

    def text(self):
        """The letters read behind the row; begun as long as these are fewer than its letters."""
        task = self._guide.led_task
        letters = letters_behind(task, self._row)
        return letters if len(letters) >= len(task[3]) else task[3]

    def left(self):
        """How many tokens of the budget are left."""
        return self._budget - len(self._row)

    def ended(self):
        """Whether END was written."""
        return self._over

    def need(self):
        """The need of the row; 0 after the end."""
        return 0 if self._over else self._guide.need(self._stances[-1])

    def choices(self):
        """The mask of the row with the tokens that are left; ((), False) after the end."""
        if self._over:
            return ((), False)
        if self._mask is None:
            fitting = fitting_tokens(self._guide.needs(self._stances[-1]), self.left())
            self._mask = (fitting, self.need() == 0)
        return self._mask

    def looked(self):
        """The inner texts at which the writer may stand behind the row; () after the end."""
        if self._over:
            return ()
        return stood_texts(self._guide.led_task[1], self.need(), self.left(), self.choices()[0])

    def write(self, choice):
        """Writes a choice of the mask."""
        if self._over:
            raise Ended()
        fitting, may_end = self.choices()
        if not is_int(choice) or not (choice in fitting or choice == END and may_end):
            raise NotLet(choice)
        if choice == END:
            self._over = True
        else:
            self._stances.append(self._guide.after(self._stances[-1], choice))
            self._row.append(choice)
            self._mask = None

    def tree(self):
        """The only tree of the text, None before the end."""
        return self._guide.one_way.rules_of(self._pieces()) if self._over else None

    def rules(self):
        """The rules read behind the letters read; after the end the only tree of these."""
        return self._guide.one_way.rules_of(self._pieces())

    def _pieces(self):
        """The list of the pieces read, after the end with those of what may be empty."""
        pieces = []
        for stance in self._stances:
            pieces.extend(stance.pieces)
        if self._over:
            pieces.extend(self._guide.one_way.last_pieces(self._stances[-1].cell))
        return pieces

    def sure_text(self):
        """The letters that are sure to come; "" after the end."""
        return "" if self._over else text_ahead(self._guide, self._stances[-1], self.left())

    def sure_rules(self):
        """The rules that are sure to be read; () after the end."""
        return () if self._over else rules_ahead(self._guide, self._stances[-1], self.left())

    def back(self, k):
        """Cuts the row to its first k tokens; the run has not ended behind this."""
        if not is_below(k, len(self._row) + 1):
            raise NotUsable("k")
        del self._row[k:]
        del self._stances[k + 1 :]
        self._over = False
        self._mask = None

    def fork(self):
        """A new run that stands where this one does."""
        other = Run(self._guide, self._budget)
        other._row = list(self._row)
        other._stances = list(self._stances)
        other._over = self._over
        return other

    def guide(self):
        """The guide of this run."""
        return self._guide
