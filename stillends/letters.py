"""Letters, texts, numbers, words, and END."""

END = -1

# The percent sign is no letter; it is told by its number, as no string of the package may hold it.
_PERCENT = 37

_WORD_LIMIT = 12


def is_int(thing):
    """Whether thing is an integer: a bool is none."""
    return isinstance(thing, int) and not isinstance(thing, bool)


def is_number(thing):
    """Whether thing is an integer that is at least 0."""
    return is_int(thing) and thing >= 0


def is_letter(thing):
    """Whether thing is a string of one character from the space to ~ but the percent sign."""
    return isinstance(thing, str) and len(thing) == 1 and _is_sign(thing)


def is_text(thing):
    """Whether thing is a string of letters, possibly empty, of any length."""
    return isinstance(thing, str) and all([_is_sign(sign) for sign in thing])


def is_word(thing):
    """Whether thing is a word as names have it: one to twelve small letters and figures, a small letter first."""
    if not isinstance(thing, str) or not 1 <= len(thing) <= _WORD_LIMIT:
        return False
    return _is_small(thing[0]) and all([_is_small(sign) or "0" <= sign <= "9" for sign in thing])


def _is_sign(sign):
    return " " <= sign <= "~" and ord(sign) != _PERCENT


def _is_small(sign):
    return "a" <= sign <= "z"
