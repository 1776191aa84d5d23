"""Where a writer may stand behind a row: at its end, or within a token that may come next."""

from stillends.checks import ask_row, ask_short
from stillends.masks import mask_of
from stillends.needing import outlook_at
from stillends.orders import by_length


def stood_at(task, row, left):
    """The inner texts, by length, that can stand behind the row on the way to an ending of at most left tokens."""
    ask_row(task[1], row)
    ask_short(left, "left")
    outlook = outlook_at(task, row)
    return stood_texts(task[1], outlook.need(), left, mask_of(outlook, left)[0])


def stood_texts(tokens, need, left, fitting):
    """What stood_at tells of a row with this need, behind which these tokens fit."""
    found = {tokens[token][:k] for token in fitting for k in range(1, len(tokens[token]))}
    at_end = [""] if need is not None and need <= left else []
    return tuple(at_end + by_length(sorted(found)))
