"""[11], [106]: sheets of forms."""

import random

from stillends.sheets import first_signs, lets_sheet
from tests.forms import FORMS, FORM_LETTERS, TooMany, sheet_texts, some_sheet
from tests.helpers import DEEP, ODD, Case

FIGURES = ("0", "1", "2", "3", "4", "5", "6", "7", "8", "9")
NONE, TRUTH = ("none",), ("truth",)
# A form of each kind, with just the limits.
EACH = (
    ("one", ("a",)), ("one", ("!", "abcdefgh", "b c", "c", "d", "e", "f", "~")), ("text", FORM_LETTERS, 0, 8),
    ("text", ("a",), 0, 0), ("text", ("a",), 8, 8), ("whole", 1), ("whole", 8), TRUTH, NONE, ("list", NONE, 0, None),
    ("list", NONE, 4, 4), ("list", NONE, 4, 6), ("list", NONE, 0, 0), ("record", ()), ("or", (NONE,)), ("of", 0),
    ("record", tuple((f"{k}", NONE, k > 2) for k in range(6))),
    ("or", (("one", ("a",)), ("whole", 2), TRUTH, NONE, ("list", NONE, 0, 1), ("record", ()))),
)
WRONG = (
    (), ("none", 0), ("truth", None), ("None",), (None,), (0,), ((),), "none", ["none"], (NONE,), ("nil",), ("nil", ()), ("Record", ()), ("nil", 1), ("fields", ((),)), ("of",),
    ("one",), ("one", ()), ("one", ("a", "a")), ("one", ("b", "a")), ("one", ["a"]), ("one", ("",)), ("one", ("a" * 9,)),
    ("one", ('"',)), ("one", ("\\",)), ("one", ("a%",)), ("one", ("a\n",)), ("one", (1,)), ("one", ("a",), 0), ("one", "a"),
    ("one", tuple("abcdefghi")), ("one", (("a",),)),
    ("text", (), 0, 1), ("text", ("ab",), 0, 1), ("text", ("b", "a"), 0, 1), ("text", ("a", "a"), 0, 1), ("text", "a", 0, 1),
    ("text", ('"',), 0, 1), ("text", ("\\",), 0, 1), ("text", ("%",), 0, 1), ("text", ("",), 0, 1), ("text", ["a"], 0, 1),
    ("text", ("a",), 1, 0), ("text", ("a",), 0, 9), ("text", ("a",), -1, 1), ("text", ("a",), True, 1), ("text", ("a",), 0, True),
    ("text", ("a",), 0, None), ("text", ("a",), 0), ("text", ("a",), None, 1), ("text", (1,), 0, 1),
    ("whole",), ("whole", 0), ("whole", 9), ("whole", True), ("whole", -1), ("whole", "1"), ("whole", None), ("whole", 1, 1),
    ("list", NONE), ("list", NONE, 0), ("list", NONE, 5, None), ("list", NONE, 5, 5), ("list", NONE, 1, 0), ("list", NONE, 0, 7),
    ("list", NONE, -1, 1), ("list", NONE, True, 1), ("list", NONE, 0, True), ("list", NONE, None, 1), ("list", NONE, 0, "1"),
    ("list", None, 0, 1), ("list", "none", 0, 1), ("list", (), 0, 1), ("list", (NONE,), 0, 1),
    ("record",), ("record", None), ("record", [("a", NONE, True)]), ("record", (("a", NONE),)), ("record", (("a", NONE, 1),)),
    ("record", (("a", NONE, None),)), ("record", (("", NONE, True),)), ("record", (("a" * 9, NONE, True),)),
    ("record", (("a", NONE, True), ("a", TRUTH, False))), ("record", (("a", None, True),)), ("record", (["a", NONE, True],)),
    ("record", tuple((f"{k}", NONE, True) for k in range(7))), ("record", ((1, NONE, True),)), ("record", (('"', NONE, True),)),
    ("or",), ("or", ()), ("or", (None,)), ("or", [NONE]), ("or", NONE), ("or", (NONE,) * 7), ("or", (NONE, ("nil",))),
    ("of", -1), ("of", True), ("of", None), ("of", "0"), ("of", 0, 0), ("of", (0,)),
)


class LetsSheetTest(Case):
    def test_each_form(self):
        for form in EACH[:15] + EACH[16:]:
            self.same(lets_sheet((form,)), 1)
            self.same(lets_sheet((NONE, form, ("list", form, 0, 2))), 3)
        self.same(lets_sheet((NONE, ("of", 0))), 2)
        self.same(lets_sheet(EACH[:15] + (("list", ("of", 16), 0, 1),) + EACH[16:]), 18)

    def test_limits_do_not_count(self):
        many = 5000
        self.same(lets_sheet(tuple(("of", k + 1) for k in range(many)) + (NONE,)), many + 1)
        deep = NONE
        for _ in range(14):
            deep = ("list", deep, 0, None)
        self.same(lets_sheet((deep,) * 9), 9)
        self.same(lets_sheet(tuple(("one", tuple(f"{k}{j}" for j in range(8))) for k in range(9))), 9)

    def test_shape(self):
        for thing in (None, True, -1, 0, "", "none", [], [NONE], ()):
            self.refuses("InvalidPaper('shape', -1)", lets_sheet, thing)

    def test_form(self):
        for thing in WRONG + ODD + (0, "", DEEP):
            self.refuses("InvalidPaper('form', 0)", lets_sheet, (thing,))
            self.refuses("InvalidPaper('form', 1)", lets_sheet, (NONE, thing))
            self.refuses("InvalidPaper('form', 0)", lets_sheet, (("list", thing, 0, 1), None))
            self.refuses("InvalidPaper('form', 0)", lets_sheet, (("record", (("a", NONE, True), ("b", thing, False))),))
            self.refuses("InvalidPaper('form', 0)", lets_sheet, (("or", (TRUTH, ("list", ("or", (thing,)), 0, 1))),))

    def test_of(self):
        for number in (1, 2, 10**59):
            self.refuses("InvalidPaper('of', 0)", lets_sheet, (("of", number),))
            self.refuses("InvalidPaper('of', 0)", lets_sheet, (("list", ("record", (("a", ("of", number), True),)), 0, 1),))
        self.refuses("InvalidPaper('of', 1)", lets_sheet, (("list", ("of", 1), 0, 1), ("or", (NONE, ("of", 2)))))

    def test_round(self):
        self.refuses("InvalidPaper('round', 1)", lets_sheet, (("or", (("of", 1),)), ("of", 1)))
        self.refuses("InvalidPaper('round', 0)", lets_sheet, (("of", 0),))
        self.refuses("InvalidPaper('round', 0)", lets_sheet, (("of", 2), NONE, ("or", (TRUTH, ("of", 0)))))
        self.refuses("InvalidPaper('round', 2)", lets_sheet, (("of", 2), NONE, ("or", (TRUTH, ("or", (("of", 2),))))))
        many = 1000
        self.refuses("InvalidPaper('round', 1)", lets_sheet, (NONE,) + tuple(("of", k % many + 1) for k in range(1, many + 1)))
        # With a list or a record between it may.
        self.same(lets_sheet((("of", 1), ("or", (NONE, ("list", ("of", 0), 0, 1), ("record", (("a", ("of", 1), True),)))))), 2)
        self.same(lets_sheet((("list", ("or", (("of", 0),)), 0, 0),)), 1)

    def test_alike(self):
        text, one = ("text", ("a",), 0, 1), ("one", ("b",))
        for parts in ((text, one), (NONE, NONE), (("whole", 1), ("whole", 2)), (TRUTH, NONE, TRUTH), (("list", NONE, 0, 0), ("list", TRUTH, 1, 1))):
            self.refuses("InvalidPaper('alike', 0)", lets_sheet, (("or", parts),))
            self.refuses("InvalidPaper('alike', 1)", lets_sheet, (NONE, ("list", ("record", (("a", ("or", parts), False),)), 0, 1)))
        self.refuses("InvalidPaper('alike', 0)", lets_sheet, (("or", (NONE, ("of", 1))), ("or", (TRUTH, ("of", 2))), NONE))
        self.refuses("InvalidPaper('alike', 1)", lets_sheet, (("or", (NONE, TRUTH)), ("or", (("or", (NONE, TRUTH)), ("of", 0)))))

    def test_the_first_one_first(self):
        bad, far, ring, alike = ("nil",), ("of", 9), ("of", 0), ("or", (NONE, NONE))
        self.refuses("InvalidPaper('form', 0)", lets_sheet, (("or", (far, bad)), bad))
        self.refuses("InvalidPaper('of', 0)", lets_sheet, (far, bad))
        self.refuses("InvalidPaper('form', 1)", lets_sheet, (ring, bad, far))
        self.refuses("InvalidPaper('of', 1)", lets_sheet, (alike, far))
        self.refuses("InvalidPaper('round', 1)", lets_sheet, (alike, ("of", 1)))
        self.refuses("InvalidPaper('round', 0)", lets_sheet, (ring, ("of", 1)))
        self.refuses("InvalidPaper('alike', 0)", lets_sheet, (alike, alike))


class FirstSignsTest(Case):
    def test_each_form(self):
        expected = {"one": ('"',), "text": ('"',), "whole": ("-",) + FIGURES, "truth": ("f", "t"), "none": ("n",), "list": ("[",), "record": ("{",)}
        for form in EACH:
            if form[0] in expected:
                self.same(first_signs((NONE, form), 1), expected[form[0]])
        self.same(first_signs((EACH[17],), 0), ('"', "-") + FIGURES + ("[", "f", "n", "t", "{"))
        self.same(first_signs((("or", (("of", 1), NONE)), ("of", 2), ("or", (TRUTH,))), 0), ("f", "n", "t"))

    def test_they_are_those_of_the_texts(self):
        chance = random.Random(106)
        for _ in range(100):
            sheet = some_sheet(chance)
            try:
                signs = {text[0] for text in sheet_texts(sheet, 9)}
            except TooMany:
                continue
            self.assertLessEqual(signs, set(first_signs(sheet, 0)))

    def test_forms_without_values_have_them_too(self):
        self.same(first_signs((("list", ("of", 0), 1, 2),), 0), ("[",))
        self.same(first_signs(FORMS, 0), ("{",))

    def test_long_rows_of_forms(self):
        sheet = tuple(("of", k + 1) for k in range(7)) + (("or", (TRUTH, ("whole", 1))),)
        for k in range(8):
            self.same(first_signs(sheet, k), ("-",) + FIGURES + ("f", "t"))

    def test_errors(self):
        for k in ODD + (2, 10**59, "0", "", (), (0,), DEEP):
            self.refuses("NotUsable('k')", first_signs, (NONE, TRUTH), k)
