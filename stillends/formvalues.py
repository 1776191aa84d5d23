"""The values of a sheet: whether something is one, and how many there are."""

from stillends.orders import components
from stillends.sheets import all_signs, form_signs


def fits(sheet, thing):
    """Whether thing is a value of the sheet."""
    signs = all_signs(sheet)
    due = [(sheet[0], thing)]
    while len(due) > 0:
        form, value = due.pop()
        plain = _plain_form(sheet, signs, form, _sign_of(value))
        parts = None if plain is None else _parts_of(plain, value)
        if parts is None:
            return False
        due.extend(parts)
    return True


def _sign_of(value):
    """A letter with which the text of a value begins, or that of another value of all forms that have it."""
    if isinstance(value, bool):
        return "t" if value else "f"
    if value is None:
        return "n"
    if isinstance(value, int):
        return "0"
    if isinstance(value, str):
        return "\""
    if isinstance(value, list):
        return "["
    return "{" if isinstance(value, tuple) else ""


def _plain_form(sheet, signs, form, sign):
    """The form, behind all "or" and "of", of the values whose texts begin with a letter; None if there is none."""
    while form is not None and sign in form_signs(form, signs):
        if form[0] == "of":
            form = sheet[form[1]]
        elif form[0] == "or":
            form = [part for part in form[1] if sign in form_signs(part, signs)][0]
        else:
            return form
    return None


def _parts_of(form, value):
    """The list of (form, value) that have to fit as well; None if the value, of the form's kind, does not fit."""
    word = form[0]
    if word == "one":
        return [] if value in form[1] else None
    if word == "text":
        _, letters, least, most = form
        fitting = least <= len(value) <= most and all([sign in letters for sign in value])
        return [] if fitting else None
    if word == "whole":
        return [] if abs(value) < _power(10, form[1]) else None
    if word == "list":
        _, part, least, most = form
        fitting = least <= len(value) and (most is None or len(value) <= most)
        return [(part, element) for element in value] if fitting else None
    return _fields_of(form[1], value) if word == "record" else []


def _fields_of(fields, value):
    """What _parts_of tells of a tuple for a record."""
    found = []
    for key, form, must in fields:
        at = len(found)
        if at < len(value) and isinstance(value[at], tuple) and len(value[at]) == 2 and value[at][0] == key:
            found.append((form, value[at][1]))
        elif must:
            return None
    return found if len(found) == len(value) else None


def _power(number, times):
    power = 1
    for _ in range(times):
        power *= number
    return power


def count_values(sheet):
    """How many values there are, None if endlessly many."""
    filled = filled_forms(sheet)
    leads = [_used_forms(form, filled) for form in sheet]
    counts = [0] * len(sheet)
    for part in components(leads):
        for k in part:
            ring = len(part) > 1 or k in leads[k]
            counts[k] = None if ring else _count(sheet[k], counts)
    return counts[0]


def filled_forms(sheet):
    """For each form whether it has values."""
    filled = [False] * len(sheet)
    grown = True
    while grown:
        before = sum(filled)
        filled = [is_filled(form, filled) for form in sheet]
        grown = sum(filled) > before
    return filled


def is_filled(form, filled):
    """Whether a form has values; filled tells it of the forms of the sheet, as far as it is known."""
    if form[0] == "of":
        return filled[form[1]]
    if form[0] == "or":
        return any([is_filled(part, filled) for part in form[1]])
    if form[0] == "list":
        return form[2] == 0 or is_filled(form[1], filled)
    if form[0] == "record":
        return all([is_filled(part, filled) for _, part, must in form[1] if must])
    return True


def _used_forms(form, filled):
    """The list of the numbers of forms whose values are in values of a form."""
    if not is_filled(form, filled):
        return []
    if form[0] == "of":
        return [form[1]]
    parts = []
    if form[0] == "or":
        parts = list(form[1])
    elif form[0] == "record":
        parts = [part for _, part, _ in form[1]]
    elif form[0] == "list" and form[3] != 0:
        parts = [form[1]]
    return [number for part in parts for number in _used_forms(part, filled)]


def _count(form, counts):
    """How many values a form has, None if endlessly many; counts tells it of the forms that are used in it."""
    word = form[0]
    if word == "of":
        return counts[form[1]]
    if word == "one":
        return len(form[1])
    if word == "text":
        return _sum_of_powers(len(form[1]), form[2], form[3])
    if word == "whole":
        return 2 * _power(10, form[1]) - 1
    if word in ("truth", "none"):
        return 2 if word == "truth" else 1
    if word == "list":
        return _count_lists(_count(form[1], counts), form[2], form[3])
    if word == "record":
        return _count_records([(_count(part, counts), must) for _, part, must in form[1]])
    many = [_count(part, counts) for part in form[1]]
    return None if None in many else _cut(sum(many))


def _cut(number):
    """The number, as far as it has no more figures than are told: others, that may be of any size, are one."""
    return min(number, 10 ** 60)


def _sum_of_powers(number, least, most):
    return _cut(sum([_power(number, times) for times in range(least, most + 1)]))


def _count_lists(many, least, most):
    if many == 0 or most == 0:
        return 1 if least == 0 else 0
    return None if many is None or most is None else _sum_of_powers(many, least, most)


def _count_records(fields):
    """The number of records, from how many values each field has and whether it must be there."""
    ways = [many if many is None or must else many + 1 for many, must in fields]
    if 0 in ways or None in ways:
        return 0 if 0 in ways else None
    product = 1
    for way in ways:
        product = _cut(product * way)
    return product
