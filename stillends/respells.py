"""All good rows of a text."""

from stillends.checks import ask_text
from stillends.members import is_derived
from stillends.orders import by_length
from stillends.tries import token_numbers


def rows_of(task, text):
    """All good rows behind which the text is the letters read, by length."""
    ask_text(text)
    if not text.startswith(task[3]) or not is_derived(task[0], text):
        return ()
    return tuple(by_length(rows_that_spell(task, text).listed(None)))


def rows_that_spell(task, text):
    """The rows that the book takes and behind which a text that begins with begun is the letters read."""
    _, tokens, book, begun, mode = task
    return Rows(tokens, book, text[len(begun) :] if mode == "behind" else text)


class Rows:
    """The rows that spell a text and that the book takes.

    A stop is a pair of how many letters are spelled and the state of the book; at it a token may be next
    if a row goes on behind it up to the end.
    """

    def __init__(self, tokens, book, text):
        self._length = len(text)
        self._finals = book[1]
        fitting = _fitting(tokens, text)
        # For each number of letters and each state the list of (token, stop) that go on from there to the end.
        self._steps = [[[] for _ in book[2]] for _ in range(self._length + 1)]
        for at in range(self._length - 1, -1, -1):
            for state, leads in enumerate(book[2]):
                for token, end in fitting[at]:
                    if leads[token] >= 0 and self._goes_on(end, leads[token]):
                        self._steps[at][state].append((token, (end, leads[token])))

    def _goes_on(self, at, state):
        if at == self._length:
            return state in self._finals
        return len(self._steps[at][state]) > 0

    def listed(self, most):
        """The list of the rows; of so many of them, any, if most is not None and there are more."""
        rows = []
        row = []
        # For each token of the row, and for the next one, what may still stand in its place, the next one last.
        due = [self._choices(0, 0)]
        if self._length == 0 and self._goes_on(0, 0):
            rows.append(())
        while len(due) > 0 and len(rows) != most:
            if len(due[-1]) == 0:
                due.pop()
                del row[-1:]
                continue
            token, (at, state) = due[-1].pop()
            row.append(token)
            due.append(self._choices(at, state))
            if at == self._length:
                rows.append(tuple(row))
        return rows

    def _choices(self, at, state):
        return list(self._steps[at][state])


def _fitting(tokens, text):
    """For each place in the text the list of the tokens that stand there, with the places behind them."""
    numbers = token_numbers(tokens)
    longest = max([len(token) for token in tokens])
    found = []
    for at in range(len(text)):
        last = min(at + longest, len(text))
        found.append([(numbers[text[at:end]], end) for end in range(at + 1, last + 1) if text[at:end] in numbers])
    return found
