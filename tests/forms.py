"""Sheets by chance, and the texts of their values, worked out plainly for small cases."""

from itertools import product

from stillends.errors import InvalidPaper
from stillends.sheets import lets_sheet

FORM_LETTERS = tuple(chr(code) for code in range(32, 127) if chr(code) not in '%"\\')
FORMS = (("record", (("n", ("of", 0), False), ("ok", ("truth",), True))),)


class TooMany(Exception):
    """There are too many texts to list them."""


def some_words(chance, many):
    found = set()
    while len(found) < many:
        found.add("".join(chance.choice("ab") for _ in range(chance.randint(1, 3))))
    return tuple(sorted(found))


def some_form(chance, depth, many):
    """A form by chance, nested at most so deep, in a sheet with so many forms."""
    words = ["one", "text", "whole", "truth", "none", "of"] + ["list", "record", "or"] * (2 if depth > 1 else 0)
    word = chance.choice(words)
    if word == "one":
        return (word, some_words(chance, chance.randint(1, 4)))
    if word == "text":
        least = chance.randint(0, 2)
        return (word, tuple(sorted(chance.sample("abc1-", chance.randint(1, 3)))), least, chance.randint(least, 3))
    if word == "whole":
        return (word, chance.choice((1, 1, 2)))
    if word == "of":
        return (word, chance.randrange(many))
    if word == "list":
        least = chance.choice((0, 0, 1, 2))
        return (word, some_form(chance, depth - 1, many), least, chance.choice((None, least, least + 1, 6)))
    if word == "record":
        keys = list(some_words(chance, chance.randint(0, 4)))
        chance.shuffle(keys)
        return (word, tuple((key, some_form(chance, depth - 1, many), chance.random() < 0.4) for key in keys))
    return (word, tuple(some_form(chance, depth - 1, many) for _ in range(chance.randint(1, 3)))) if word == "or" else (word,)


def some_sheet(chance):
    while True:
        many = chance.randint(1, 3)
        sheet = tuple(some_form(chance, chance.randint(1, 4), many) for _ in range(many))
        try:
            lets_sheet(sheet)
            return sheet
        except InvalidPaper:
            pass


def form_texts(form, known, most):
    """The texts of a form with at most so many letters, as a dict to their values; known has those of the sheet."""
    word = form[0]
    if word == "one":
        return cut({f'"{part}"': part for part in form[1]}, most)
    if word == "text" and len(form[1]) ** form[3] > 5000 or word == "whole" and form[1] > 3:
        raise TooMany()
    if word == "text":
        texts = ["".join(part) for many in range(form[2], form[3] + 1) for part in product(form[1], repeat=many)]
        return cut({f'"{text}"': text for text in texts}, most)
    if word == "whole":
        return cut({str(number): number for number in range(1 - 10 ** form[1], 10 ** form[1])}, most)
    if word in ("truth", "none"):
        return cut({"true": True, "false": False} if word == "truth" else {"null": None}, most)
    if word == "of":
        return known[form[1]]
    if word == "or":
        return {text: value for part in form[1] for text, value in form_texts(part, known, most).items()}
    return list_texts(form, known, most) if word == "list" else record_texts(form, known, most)


def cut(texts, most):
    return {text: value for text, value in texts.items() if len(text) <= most}


def list_texts(form, known, most):
    parts = form_texts(form[1], known, most)
    found, last, many = {}, [((), [])], 0
    while last and (form[3] is None or many <= form[3]):
        if many >= form[2]:
            found.update({"[" + ",".join(texts) + "]": list(values) for texts, values in last})
        if len(last) * len(parts) > 50000:
            raise TooMany()
        last = [
            (texts + (text,), values + [value])
            for texts, values in last
            for text, value in parts.items()
            if len(",".join(texts + (text,))) + 2 <= most
        ]
        many += 1
    return cut(found, most)


def record_texts(form, known, most):
    last = [((), ())]
    for key, part, must in form[1]:
        texts = form_texts(part, known, most)
        if len(last) * len(texts) > 50000:
            raise TooMany()
        more = [
            (told + (f'"{key}":{text}',), pairs + ((key, value),))
            for told, pairs in last
            for text, value in texts.items()
            if len(",".join(told + (f'"{key}":{text}',))) + 2 <= most
        ]
        last = more if must else last + more
    return cut({"{" + ",".join(told) + "}": pairs for told, pairs in last}, most)


def sheet_texts(sheet, most):
    """All texts of values of the sheet with at most so many letters, as a dict to the values. TooMany."""
    known = [{} for _ in sheet]
    while True:
        grown = [form_texts(form, known, most) for form in sheet]
        if sum(len(texts) for texts in grown) > 4000:
            raise TooMany()
        if grown == known:
            return known[0]
        known = grown
