"""The errors: their families, their fields, and that these are the very objects given."""

import unittest

from stillends import errors
from stillends.errors import CallError, HouseError, PaperError, RunError, StillError, TaskError, TextError

FAMILIES = (PaperError, CallError, TaskError, RunError, HouseError, TextError)
FIELDS = {
    "InvalidPaper": (PaperError, ("word", "at")),
    "NotUsable": (CallError, ("word",)),
    "TooMuch": (CallError, ("what",)),
    "NotOneWay": (TaskError, ("name", "rule", "other", "letter")),
    "Looped": (TaskError, ("name",)),
    "NoEnding": (TaskError, ()),
    "NoTape": (TaskError, ()),
    "NoValue": (TaskError, ()),
    "NotLet": (RunError, ("choice",)),
    "Ended": (RunError, ()),
    "NoSuch": (HouseError, ("kind", "name")),
    "Taken": (HouseError, ("kind", "name")),
    "NothingToUndo": (HouseError, ()),
    "InvalidText": (TextError, ("line", "word")),
}


class ErrorsTest(unittest.TestCase):
    def test_families(self):
        self.assertEqual(StillError.__bases__, (ValueError,))
        for family in FAMILIES:
            self.assertEqual(family.__bases__, (StillError,))

    def test_each_error_is_derived_directly_from_its_family(self):
        for name, (family, _) in FIELDS.items():
            self.assertEqual(getattr(errors, name).__bases__, (family,))
            self.assertEqual(getattr(errors, name).__module__, "stillends.errors")

    def test_there_are_no_other_errors(self):
        kinds = [name for name, value in vars(errors).items() if isinstance(value, type)]
        self.assertEqual(set(kinds), set(FIELDS) | {"StillError"} | {family.__name__ for family in FAMILIES})

    def test_fields_are_the_very_objects(self):
        for name, (_, fields) in FIELDS.items():
            values = [[field] for field in fields]
            for error in (getattr(errors, name)(*values), getattr(errors, name)(**dict(zip(fields, values)))):
                self.assertEqual(list(vars(error)), list(fields))
                for field, value in zip(fields, values):
                    self.assertIs(getattr(error, field), value)

    def test_constructed_with_exactly_the_fields(self):
        for name, (_, fields) in FIELDS.items():
            with self.assertRaises(TypeError):
                getattr(errors, name)(*fields, 0)
            if fields:
                with self.assertRaises(TypeError):
                    getattr(errors, name)(*fields[1:])

    def test_raised_and_caught_as_a_value_error(self):
        for name, (family, fields) in FIELDS.items():
            for kind in (family, StillError, ValueError):
                with self.assertRaises(kind):
                    raise getattr(errors, name)(*fields)
