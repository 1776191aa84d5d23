"""What many functions ask of values: tuples of numbers below a bound, and the parameters of the usual kinds."""

from stillends.errors import NotUsable
from stillends.letters import is_int, is_number, is_text
from stillends.limits import BUDGET_LIMIT, ROW_LIMIT, TEXT_LIMIT


def is_below(thing, bound):
    """Whether thing is a number below the bound."""
    return is_number(thing) and thing < bound


def is_count(thing):
    """Whether thing is an integer of at least 1."""
    return is_int(thing) and thing >= 1


def is_tuple_of(thing, many):
    """Whether thing is a tuple with so many members."""
    return isinstance(thing, tuple) and len(thing) == many


def are_below(thing, bound):
    """Whether thing is a tuple of numbers below the bound."""
    return isinstance(thing, tuple) and all([is_below(part, bound) for part in thing])


def is_ascending(numbers):
    """Whether each of the numbers is greater than the one before it."""
    return all([numbers[k] < numbers[k + 1] for k in range(len(numbers) - 1)])


def ask_row(tokens, row):
    """NotUsable("row") if row is not a row of these tokens within the limit."""
    if not are_below(row, len(tokens)) or len(row) > ROW_LIMIT:
        raise NotUsable("row")


def ask_text(text):
    """NotUsable("text") if text is not a text within the limit."""
    if not is_text(text) or len(text) > TEXT_LIMIT:
        raise NotUsable("text")


def ask_short(number, word):
    """NotUsable(word) if number, a budget or the like, is not a number within the limit."""
    if not is_number(number) or number > BUDGET_LIMIT:
        raise NotUsable(word)


def ask_below(number, bound, word):
    """NotUsable(word) if number is not a number below the bound."""
    if not is_below(number, bound):
        raise NotUsable(word)
