"""Sheets of forms: whether something is one, and with which letters the texts of forms begin."""

from stillends.checks import ask_below, is_ascending, is_tuple_of
from stillends.errors import InvalidPaper
from stillends.letters import is_int, is_letter, is_number
from stillends.orders import components

# The first letters of the forms that are not put together of others alone.
SIGNS = {
    "one": ("\"",),
    "text": ("\"",),
    "whole": ("-", "0", "1", "2", "3", "4", "5", "6", "7", "8", "9"),
    "truth": ("f", "t"),
    "none": ("n",),
    "list": ("[",),
    "record": ("{",),
}

# The most letters of a word and of a text, figures, fields, and elements of a list at least and at most.
_WORD_LIMIT = 8
_TEXT_LIMIT = 8
_FIGURES_LIMIT = 8
_PARTS_LIMIT = 6
_LEAST_LIMIT = 4


def lets_sheet(thing):
    """How many forms there are if thing is a sheet; otherwise InvalidPaper for the first fault."""
    if not isinstance(thing, tuple) or len(thing) == 0:
        raise InvalidPaper("shape", -1)
    inner = []
    for k, form in enumerate(thing):
        forms = _all_forms(form)
        if forms is None:
            raise InvalidPaper("form", k)
        if not all([number < len(thing) for number in _led_to(forms)]):
            raise InvalidPaper("of", k)
        inner.append(forms)
    rounds = _rounds(thing)
    if len(rounds) > 0:
        raise InvalidPaper("round", rounds[0])
    signs = all_signs(thing)
    for k, forms in enumerate(inner):
        if not all([_are_apart(form[1], signs) for form in forms if form[0] == "or"]):
            raise InvalidPaper("alike", k)
    return len(thing)


def _all_forms(thing):
    """The list of all forms in thing, it too, if it is a form, apart from what its numbers and letters lead to."""
    forms = []
    due = [thing]
    while len(due) > 0:
        form = due.pop()
        if not _is_shaped(form):
            return None
        forms.append(form)
        due.extend(parts_of(form))
    return forms


def parts_of(form):
    """The list of the forms right in a form."""
    if form[0] == "list":
        return [form[1]]
    if form[0] == "record":
        return [field[1] for field in form[1]]
    return list(form[1]) if form[0] == "or" else []


def _is_shaped(thing):
    """Whether thing is a form, whatever the forms in it are."""
    if not isinstance(thing, tuple) or len(thing) == 0 or not isinstance(thing[0], str):
        return False
    word = thing[0]
    if word in ("truth", "none"):
        return len(thing) == 1
    if word in ("text", "list"):
        return len(thing) == 4 and (_is_text(thing) if word == "text" else _is_list(thing))
    return len(thing) == 2 and _is_simple(word, thing[1])


def _is_simple(word, thing):
    """Whether thing is what a form with this word has behind it."""
    if word == "of":
        return is_number(thing)
    if word == "whole":
        return is_int(thing) and 1 <= thing <= _FIGURES_LIMIT
    if not isinstance(thing, tuple):
        return False
    if word == "one":
        return 1 <= len(thing) <= _WORD_LIMIT and all([_is_word(part) for part in thing]) and is_ascending(thing)
    if word == "or":
        return 1 <= len(thing) <= _PARTS_LIMIT
    return word == "record" and len(thing) <= _PARTS_LIMIT and _are_fields(thing)


def _is_text(form):
    _, letters, least, most = form
    if not isinstance(letters, tuple) or len(letters) == 0 or not all([_is_form_letter(part) for part in letters]):
        return False
    return is_ascending(letters) and is_number(least) and is_number(most) and least <= most <= _TEXT_LIMIT


def _is_list(form):
    _, _, least, most = form
    if not is_number(least) or least > _LEAST_LIMIT:
        return False
    return most is None or is_number(most) and least <= most <= _PARTS_LIMIT


def _are_fields(things):
    known = {}
    for thing in things:
        if not is_tuple_of(thing, 3) or not _is_word(thing[0]) or not isinstance(thing[2], bool) or thing[0] in known:
            return False
        known[thing[0]] = True
    return True


def _is_form_letter(thing):
    return is_letter(thing) and thing not in ("\"", "\\")


def _is_word(thing):
    if not isinstance(thing, str) or not 1 <= len(thing) <= _WORD_LIMIT:
        return False
    return all([_is_form_letter(sign) for sign in thing])


def _led_to(forms):
    """The list of the numbers of forms to which some forms lead."""
    return [form[1] for form in forms if form[0] == "of"]


def _leads(sheet):
    """For each form the list of the numbers of those that it comes to through "or" and "of" alone."""
    found = []
    for form in sheet:
        leads = []
        due = [form]
        while len(due) > 0:
            inner = due.pop()
            if inner[0] == "of":
                leads.append(inner[1])
            elif inner[0] == "or":
                due.extend(inner[1])
        found.append(leads)
    return found


def _rounds(sheet):
    """The ascending list of the forms that come to themselves through "or" and "of" alone."""
    leads = _leads(sheet)
    return sorted([k for part in components(leads) for k in part if len(part) > 1 or k in leads[k]])


def all_signs(sheet):
    """For each form its first letters, as a dict of True; no form comes to itself without a list or record between."""
    signs = [{} for _ in sheet]
    for part in components(_leads(sheet)):
        signs[part[0]] = form_signs(sheet[part[0]], signs)
    return signs


def form_signs(form, signs):
    """The first letters of a form as a dict of True; signs has those of the forms of the sheet."""
    found = {}
    due = [form]
    while len(due) > 0:
        inner = due.pop()
        if inner[0] == "or":
            due.extend(inner[1])
        elif inner[0] == "of":
            found.update(dict(signs[inner[1]]))
        else:
            found.update({sign: True for sign in SIGNS[inner[0]]})
    return found


def _are_apart(forms, signs):
    """Whether no two of the forms share a first letter."""
    many = [len(form_signs(form, signs)) for form in forms]
    return sum(many) == len(form_signs(("or", forms), signs))


def first_signs(sheet, k):
    """The ascending tuple of the first letters of a form."""
    ask_below(k, len(sheet), "k")
    return tuple(sorted(all_signs(sheet)[k]))
