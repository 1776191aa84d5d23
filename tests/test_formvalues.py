"""[108]: values of sheets."""

import random

from stillends.formvalues import count_values, fits
from tests.forms import FORMS, FORM_LETTERS, TooMany, sheet_texts, some_sheet
from tests.helpers import DEEP, ODD, Case
from tests.proofs import bent
from tests.test_sheets import NONE, TRUTH

VALUES = (None, True, False, 0, 1, -1, 10, "", "a", "ab", "null", [], [None], [True], [1], (), (("a", None),), (("a", True),))


class FitsTest(Case):
    def test_just_the_values(self):
        chance = random.Random(108)
        fitting = others = 0
        for _ in range(300):
            sheet = some_sheet(chance)
            try:
                values = list(sheet_texts(sheet, 14).values())
            except TooMany:
                continue
            known = {repr(value) for value in values}
            for value in chance.sample(values, min(8, len(values))):
                self.same(fits(sheet, value), True)
                fitting += 1
                other = bent_value(chance, value)
                if len(repr(other)) < 9:
                    self.same(fits(sheet, other), repr(other) in known)
                    others += 1
        self.assertGreater(min(fitting, others), 300)

    def test_example(self):
        self.same(fits(FORMS, (("ok", 1),)), False)
        self.same(fits(FORMS, (("ok", True),)), True)

    def test_each_form(self):
        expected = (
            (("one", ("a", "null")), ("a", "null")), (("text", ("a", "b"), 0, 1), ("", "a")), (("text", ("a", "b"), 2, 2), ("ab",)),
            (("whole", 1), (0, 1, -1)), (("whole", 2), (0, 1, -1, 10)), (TRUTH, (True, False)), (NONE, (None,)),
            (("list", NONE, 0, None), ([], [None])), (("list", TRUTH, 1, 1), ([True],)), (("list", ("whole", 1), 0, 0), ([],)),
            (("record", ()), ((),)), (("record", (("a", NONE, True),)), ((("a", None),),)),
            (("record", (("a", TRUTH, False),)), ((), (("a", True),))), (("or", (NONE, ("whole", 1))), (None, 0, 1, -1)),
        )
        for form, values in expected:
            for sheet in ((form,), (("of", 1), form), (("or", (("of", 1),)), form)):
                found = [value for value in VALUES if fits(sheet, value)]
                self.same(sorted(map(repr, found)), sorted(map(repr, values)))

    def test_lists_are_no_tuples(self):
        for value, taken in (([], True), ((), False), ([[]], True), ([()], False), (([],), False)):
            self.same(fits((("list", ("or", (NONE, ("of", 0))), 0, 2),), value), taken)
        record = (("record", (("a", ("list", NONE, 0, 1), True),)),)
        for value in ([("a", [])], (["a", []],), (("a", ()),), (("a",),), (("a", [], 0),), ("a", []), None, []):
            self.same(fits(record, value), False)
        self.same(fits(record, (("a", []),)), True)

    def test_true_is_not_1(self):
        for form, value in ((("whole", 1), True), (("whole", 8), False), (TRUTH, 1), (TRUTH, 0), (NONE, False), (NONE, 0)):
            self.same(fits((form,), value), False)
            self.same(fits((("list", form, 1, 1),), [value]), False)

    def test_limits(self):
        self.same([fits((("whole", 8),), value) for value in (99999999, -99999999, 10**8, -(10**8), 10**90)], [True, True, False, False, False])
        self.same([fits((("text", ("a",), 1, 8),), "a" * many) for many in (0, 1, 8, 9)], [False, True, True, False])
        self.same([fits((("list", NONE, 1, 6),), [None] * many) for many in (0, 1, 6, 7)], [False, True, True, False])
        self.same(fits((("list", NONE, 0, None),), [None] * 6000), True)
        deep = []
        for _ in range(28):
            deep = [deep]
        self.same(fits((("list", ("of", 0), 0, None),), deep), True)
        self.same(fits((("text", FORM_LETTERS, 0, 8),), "a\nb"), False)

    def test_fields_in_sequence(self):
        sheet = (("record", (("a", NONE, False), ("b", NONE, True), ("c", NONE, False))),)
        for given, taken in (("b", True), ("ab", True), ("bc", True), ("abc", True), ("", False), ("a", False), ("ac", False), ("ba", False), ("bb", False)):
            self.same(fits(sheet, tuple((key, None) for key in given)), taken)
        self.same(fits(sheet, (("b", None), ("d", None))), False)

    def test_any_value(self):
        for value in ODD + (0, "", "a", [], [[]], (), DEEP, 10**90):
            for sheet in (FORMS, (("list", ("of", 0), 1, None),), (("or", (("one", ("x",)), ("whole", 1))),)):
                self.same(fits(sheet, value), sheet == (("or", (("one", ("x",)), ("whole", 1))),) and repr(value) in ("0", "-1"))


class CountValuesTest(Case):
    def test_by_lists(self):
        chance = random.Random(1081)
        counted = 0
        for _ in range(400):
            sheet = some_sheet(chance)
            many = count_values(sheet)
            try:
                # Where there are few, all of them are listed.
                texts = sheet_texts(sheet, 300 if many is not None and many < 80 else 20)
            except TooMany:
                continue
            if many is not None and many < 80:
                self.same(many, len(texts))
                counted += 1
            self.assertTrue(many is None or many >= len(texts))
        self.assertGreater(counted, 100)

    def test_example(self):
        self.same((count_values(FORMS), count_values((("list", ("of", 0), 1, 2),))), (None, 0))

    def test_each_form(self):
        for form, many in (
            (("one", ("a", "b", "c")), 3), (("text", ("a", "b"), 0, 3), 15), (("text", ("a",), 8, 8), 1), (("whole", 1), 19),
            (("whole", 8), 2 * 10**8 - 1), (TRUTH, 2), (NONE, 1), (("list", TRUTH, 0, 2), 7), (("list", TRUTH, 2, 6), 124),
            (("list", TRUTH, 0, None), None), (("list", TRUTH, 4, None), None), (("list", TRUTH, 0, 0), 1), (("record", ()), 1),
            (("record", (("a", TRUTH, True), ("b", TRUTH, False))), 6), (("or", (TRUTH, NONE, ("whole", 1))), 22),
            (("text", FORM_LETTERS, 8, 8), 92**8), (("list", ("text", FORM_LETTERS, 4, 4), 6, 6), 92**24),
        ):
            for sheet in ((form,), (("of", 1), form), (("or", (("of", 2),)), NONE, form)):
                self.same(count_values(sheet), many)

    def test_none_and_endless(self):
        empty = ("list", ("of", 1), 1, 2)
        for form, many in (
            (("list", ("of", 1), 0, None), 1), (("list", ("of", 1), 0, 0), 1), (("list", ("of", 1), 1, None), 0), (("of", 1), 0),
            (("record", (("a", ("of", 1), False), ("b", TRUTH, True))), 2), (("record", (("a", ("of", 1), True), ("b", ("of", 2), True))), 0),
            (("or", (("of", 1), NONE)), 1), (("or", (("of", 2), NONE)), None), (("list", ("of", 2), 0, 0), 1), (("list", ("of", 2), 0, 1), None),
            (("record", (("a", ("of", 2), False),)), None), (("list", ("list", ("of", 1), 1, 1), 0, 5), 1),
        ):
            self.same(count_values((form, empty, ("list", NONE, 0, None))), many)

    def test_forms_that_come_to_themselves(self):
        for sheet, many in (
            ((("list", ("or", (("of", 0),)), 1, 1),), 0), ((("list", ("or", (("of", 0), NONE)), 1, 1),), None),
            ((("list", ("of", 0), 0, 0),), 1), ((("list", ("of", 0), 0, 1),), None), ((("list", ("of", 0), 1, 1),), 0),
            ((("or", (NONE, ("list", ("of", 0), 1, 1))),), None), ((("or", (NONE, ("record", (("a", ("of", 0), True),)))),), None),
            ((("record", (("a", ("of", 0), True),)),), 0), ((("record", (("a", ("of", 0), False),)),), None),
            # The loop is in a record that has no values, or where no values come from.
            ((("or", (NONE, ("record", (("a", ("of", 0), True), ("b", ("of", 1), True))))), ("list", ("of", 1), 1, 1)), 1),
            ((NONE, ("list", ("of", 1), 0, 1)), 1), ((("list", ("of", 1), 0, 1), ("list", ("of", 0), 0, 1)), None),
            ((("list", ("of", 1), 0, 1), ("list", ("of", 0), 1, 1)), None), ((("list", ("of", 1), 1, 1), ("list", ("of", 0), 1, 1)), 0),
        ):
            self.same(count_values(sheet), many)

    def test_numbers_of_sixty_figures(self):
        # 19 ** 46 has 59 figures; greater ones are not told, but come to an end.
        nines = ("list", ("list", ("whole", 1), 6, 6), 6, 6)
        self.same(count_values((nines,)), 19**36)
        sheet = tuple(("list", ("list", ("list", ("list", ("of", k + 1), 6, 6), 6, 6), 6, 6), 6, 6) for k in range(7)) + (("whole", 8),)
        self.assertGreaterEqual(count_values(sheet), 10**60)


def bent_value(chance, value):
    """A value near by: with lists for tuples, numbers for bools and the like."""
    if isinstance(value, list) and value and chance.random() < 0.7:
        at = chance.randrange(len(value))
        return value[:at] + [bent_value(chance, value[at])] + value[at + 1 :] if chance.random() < 0.6 else value[:at] + value[at + 1 :]
    if isinstance(value, list):
        return chance.choice((tuple(value), value + [None], value + value))
    return bent(chance, value, 2)
