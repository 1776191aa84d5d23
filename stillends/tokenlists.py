"""Tokens and rows of them."""

from stillends.checks import are_below, ask_row
from stillends.errors import InvalidPaper
from stillends.letters import is_text


def lets_tokens(thing):
    """How many tokens there are if thing is tokens; otherwise InvalidPaper for the first fault."""
    if not isinstance(thing, tuple) or len(thing) == 0:
        raise InvalidPaper("shape", -1)
    before = set()
    for k, token in enumerate(thing):
        if not isinstance(token, str) or token == "":
            raise InvalidPaper("text", k)
        if not is_text(token):
            raise InvalidPaper("letter", k)
        if token in before:
            raise InvalidPaper("twice", k)
        before.add(token)
    return len(thing)


def row_text(tokens, row):
    """The text of the row: its tokens joined."""
    ask_row(tokens, row)
    return joined(tokens, row)


def joined(tokens, row):
    """The text of a row of any length, which is not checked."""
    return "".join([tokens[token] for token in row])


def is_row(tokens, thing):
    """Whether thing is a row of these tokens, of any length."""
    return are_below(thing, len(tokens))
