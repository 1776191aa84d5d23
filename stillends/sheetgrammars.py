"""Grammars of sheets: their texts are just those of the values, and they read one way."""

from stillends.formvalues import filled_forms, is_filled
from stillends.smallgrammars import small_grammar

_FIGURES = ("0", "1", "2", "3", "4", "5", "6", "7", "8", "9")
_QUOTE = "\""

# In the place of the form behind a key, where a word ends instead.
_WORD = -1


def form_grammar(sheet):
    """A grammar that reads one way, and whose texts are just the texts of the values of the sheet."""
    filled = filled_forms(sheet)
    if not filled[0]:
        return (("n0",), 0, ())
    return small_grammar(Layout(sheet, filled).all_bodies())


class Layout:
    """The bodies of the names of a sheet's grammar, of any length: lists of letters and of numbers of names.

    A name is told by its key: a word for what it is, and what it is of; what is alike has one name. Forms have
    numbers, too: those that are alike have the same one.
    """

    def __init__(self, sheet, filled):
        self._filled = filled
        # For each number of a form the form, with numbers in the place of the forms in it, and as it stands.
        self._flat = []
        self._whole = []
        self._form_numbers = {}
        self._roots = [self._form_number(form) for form in sheet]
        self._keys = []
        self._names = {}

    def _form_number(self, form):
        flat = form
        if form[0] == "list":
            flat = ("list", self._form_number(form[1])) + form[2:]
        elif form[0] == "record":
            flat = ("record", tuple([(key, self._form_number(part), must) for key, part, must in form[1]]))
        elif form[0] == "or":
            flat = ("or", tuple([self._form_number(part) for part in form[1]]))
        if flat not in self._form_numbers:
            self._form_numbers[flat] = len(self._flat)
            self._flat.append(flat)
            self._whole.append(form)
        return self._form_numbers[flat]

    def all_bodies(self):
        """For each name the list of its bodies; name 0 has the texts of the sheet."""
        self._value(self._roots[0])
        found = []
        while len(found) < len(self._keys):
            found.append(self._bodies_of(self._keys[len(found)]))
        return found

    def _name(self, key):
        if key not in self._names:
            self._names[key] = len(self._keys)
            self._keys.append(key)
        return self._names[key]

    def _value(self, number):
        """The name for the values of a form."""
        while self._flat[number][0] == "of":
            number = self._roots[self._flat[number][1]]
        return self._name(("value", number))

    def _has_values(self, number):
        return is_filled(self._whole[number], self._filled)

    def _bodies_of(self, key):
        word = key[0]
        if word == "value":
            return self._value_bodies(self._flat[key[1]])
        if word == "letters":
            return [[letter] for letter in key[1]]
        if word == "figures":
            return [[], [self._name(("letters", _FIGURES))] + self._figures(key[1] - 1)]
        if word == "more":
            return [[_QUOTE], [self._letter(key[1])] + self._more(key[1], key[2] - 1)]
        if word == "start":
            return [["}"], [_QUOTE] + self._key(key[1])]
        if word == "fields":
            return [["}"], [",", _QUOTE] + self._key(key[1])]
        if word == "choices":
            return self._choice_bodies(key[1])
        _, number, left = key
        behind = [self._value(number)] + self._rest(number, left if left is None else left - 1)
        return [["]"], behind if word == "parts" else [","] + behind]

    def _value_bodies(self, flat):
        word = flat[0]
        if word == "one":
            return [[_QUOTE] + self._choices(tuple([(text, _WORD, ()) for text in flat[1]]))]
        if word == "text":
            _, letters, least, most = flat
            return [[_QUOTE] + [self._letter(letters)] * least + self._more(letters, most - least)]
        if word == "whole":
            above = [self._name(("letters", _FIGURES[1:]))] + self._figures(flat[1] - 1)
            return [["0"], ["-"] + above, above]
        if word == "truth":
            return [list("true"), list("false")]
        if word == "none":
            return [list("null")]
        if word == "list":
            return [["["] + self._list_end(flat)]
        if word == "record":
            return [["{"] + self._record_begin(tuple([field for field in flat[1] if self._has_values(field[1])]))]
        return [[self._value(number)] for number in flat[1] if self._has_values(number)]

    def _letter(self, letters):
        """What stands for one of some letters: the only one, or a name."""
        return letters[0] if len(letters) == 1 else self._name(("letters", letters))

    def _figures(self, most):
        """What stands for at most so many figures."""
        return [self._name(("figures", most))] if most > 0 else []

    def _more(self, letters, most):
        """What stands for at most so many letters, and the end of a text."""
        return [self._name(("more", letters, most))] if most > 0 else [_QUOTE]

    def _list_end(self, flat):
        """What comes behind the begin of a list."""
        _, number, least, most = flat
        if most == 0 or not self._has_values(number):
            return ["]"]
        if least == 0:
            return [self._name(("parts", number, most))]
        parts = [self._value(number)] + [",", self._value(number)] * (least - 1)
        return parts + self._rest(number, most if most is None else most - least)

    def _rest(self, number, left):
        """What comes behind an element of a list, with so many more at most, endlessly many if left is None."""
        return ["]"] if left == 0 else [self._name(("rest", number, left))]

    def _record_begin(self, fields):
        """What comes behind the begin of a record with these fields."""
        if len(fields) == 0:
            return ["}"]
        if any([must for _, _, must in fields]):
            return [_QUOTE] + self._key(fields)
        return [self._name(("start", fields))]

    def _behind_field(self, fields):
        """What comes behind a field if these may still come."""
        if len(fields) == 0:
            return ["}"]
        if any([must for _, _, must in fields]):
            return [",", _QUOTE] + self._key(fields)
        return [self._name(("fields", fields))]

    def _key(self, fields):
        """What comes behind the first sign of a key: that of any field up to the first one that must be there."""
        choices = []
        for k, (key, number, must) in enumerate(fields):
            choices.append((key, number, fields[k + 1 :]))
            if must:
                break
        return self._choices(tuple(choices))

    def _choices(self, choices):
        """What comes where one of some strings comes, each with what stands behind it.

        A choice is a triple of the rest of the string, and of the number of a form and the fields that may come behind
        its value; or of _WORD and ().
        """
        first = min(choices)[0]
        last = max(choices)[0]
        same = 0
        while same < len(first) and first[same] == last[same : same + 1]:
            same += 1
        cut = tuple([(text[same:], number, fields) for text, number, fields in choices])
        behind = self._behind_string(cut[0]) if len(cut) == 1 else [self._name(("choices", cut))]
        return list(first[:same]) + behind

    def _behind_string(self, choice):
        _, number, fields = choice
        if number == _WORD:
            return [_QUOTE]
        return [_QUOTE, ":", self._value(number)] + self._behind_field(fields)

    def _choice_bodies(self, choices):
        """Of choices without a common letter: those that begin as the first one does, and the others.

        The others, most often, come elsewhere without the first one.
        """
        sign = choices[0][0][:1]
        own = tuple([(text[1:], number, fields) for text, number, fields in choices if text[:1] == sign])
        others = tuple([choice for choice in choices if choice[0][:1] != sign])
        first = self._behind_string(choices[0]) if sign == "" else [sign] + self._choices(own)
        return [first, self._choices(others)]
