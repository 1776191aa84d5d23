"""The longest row of a text, and the book of the rows that are longest rows."""

from stillends.checks import ask_text
from stillends.leastbooks import least_book
from stillends.tries import inner_texts, token_numbers


def longest_row(tokens, text):
    """The row that takes, step by step, the longest token that fits; None if at some step none fits."""
    ask_text(text)
    numbers = token_numbers(tokens)
    longest = max([len(token) for token in tokens])
    row = []
    at = 0
    while at < len(text):
        most = min(longest, len(text) - at)
        fitting = [k for k in range(1, most + 1) if text[at : at + k] in numbers]
        if len(fitting) == 0:
            return None
        row.append(numbers[text[at : at + fitting[-1]]])
        at += fitting[-1]
    return tuple(row)


def canon_book(tokens):
    """The least book that takes just the rows that are the longest rows of their texts."""
    return least_book(_open_table(tokens))


def _open_table(tokens):
    """A table that runs through just the longest rows.

    Its states are the tuples of the texts that are open behind a row: those of its last tokens, one or more,
    with which a longer token begins, so that the row ceases to be a longest one if that token comes to be spelled.
    """
    numbers = token_numbers(tokens)
    inner = {text: True for text in inner_texts(tokens)}
    states = [()]
    known = {(): 0}
    table = []
    while len(table) < len(states):
        row = []
        for token in tokens:
            behind = _open_behind(states[len(table)], token, numbers, inner)
            if behind is not None and behind not in known:
                known[behind] = len(states)
                states.append(behind)
            row.append(-1 if behind is None else known[behind])
        table.append(row)
    return table


def _open_behind(opened, token, numbers, inner):
    """The texts that are open behind one more token, None if a longer token than one written is spelled by it."""
    behind = []
    for text in opened:
        longer = text + token
        if any([longer[:k] in numbers for k in range(len(text) + 1, len(longer) + 1)]):
            return None
        if longer in inner:
            behind.append(longer)
    if token in inner:
        behind.append(token)
    return tuple(behind)
