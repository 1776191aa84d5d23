"""Tasks: a grammar, tokens, a book, what is begun, and how it is gone on with."""

from stillends.books import lets_book, takes
from stillends.checks import ask_row, is_tuple_of
from stillends.errors import InvalidPaper
from stillends.grammars import lets_grammar
from stillends.letters import is_text
from stillends.members import is_derived
from stillends.tokenlists import joined, lets_tokens


def lets_task(thing):
    """How many tokens there are if thing is a task; otherwise InvalidPaper for the first fault."""
    if not is_tuple_of(thing, 5):
        raise InvalidPaper("shape", -1)
    grammar, tokens, book, begun, mode = thing
    if not _is_grammar(grammar):
        raise InvalidPaper("grammar", -1)
    if not _are_tokens(tokens):
        raise InvalidPaper("tokens", -1)
    if not _is_book(tokens, book):
        raise InvalidPaper("book", -1)
    if not is_text(begun):
        raise InvalidPaper("begun", -1)
    if mode not in ("behind", "healed"):
        raise InvalidPaper("mode", -1)
    return len(tokens)


def _is_grammar(thing):
    try:
        lets_grammar(thing)
    except InvalidPaper:
        return False
    return True


def _are_tokens(thing):
    try:
        lets_tokens(thing)
    except InvalidPaper:
        return False
    return True


def _is_book(tokens, thing):
    try:
        lets_book(tokens, thing)
    except InvalidPaper:
        return False
    return True


def is_good(task, row):
    """Whether the row is good: the book takes it, and the letters read are a text of the grammar that begins so."""
    grammar, tokens, book, begun, _ = task
    if not takes(tokens, book, row):
        return False
    text = letters_behind(task, row)
    return text.startswith(begun) and is_derived(grammar, text)


def letters_read(task, row):
    """The letters read behind the row."""
    ask_row(task[1], row)
    return letters_behind(task, row)


def letters_behind(task, row):
    """What letters_read tells, for a row of any length, which is not checked."""
    _, tokens, _, begun, mode = task
    text = joined(tokens, row)
    return begun + text if mode == "behind" else text
