"""[2], [13]: everywhere True is not 1, a list is no tuple and a text is one string, within tuples, too."""

import importlib

from stillends.drafts import Drafted
from stillends.errors import StillError
from stillends.guides import Guide
from stillends.libraries import Library
from stillends.liveruns import Run
from stillends.plainruns import PlainRun
from stillends.readers import Reader
from stillends.steering import Steered
from tests.helpers import CUTS, EVEN, NEST, TASK, Case, told
from tests.test_interface import INTERFACE

# What is passed in as such; couple and kept take any values.
AS_SUCH = ("grammar", "tokens", "book", "begun", "mode", "task", "writer", "draft", "machine", "sheet", "pattern", "other")
ANY = ("couple", "kept")
# Parameters that may be any values, with what is told of one that is not as stated.
TOLD = {
    ("is_letter", "thing"): "False", ("is_text", "thing"): "False", ("is_number", "thing"): "False", ("is_row", "thing"): "False",
    ("is_of_grammar", "thing"): "False", ("is_good_pair", "thing"): "False", ("fits", "thing"): "False", ("way_price", "thing"): "None",
    ("floor_holds", "table"): "False", ("closed_list", "items"): "False", ("judge_why_not", "table"): "False",
    ("judge_likeliest", "answer"): "False", ("judge", "answer"): "False", ("rank_pair", "tape"): "None", ("rank_pair", "tree"): "None",
    ("value_text", "value"): "NoValue",
}


def spoilt(value):
    """Values like this one: with bools for numbers, lists for tuples, tuples for lists and others for strings."""
    if isinstance(value, bool) or value is None:
        return []
    if isinstance(value, int):
        return [value > 0]
    if isinstance(value, str):
        return [(value,), [value], None]
    found = [list(value) if isinstance(value, tuple) else tuple(value)]
    for k, part in enumerate(value):
        for other in spoilt(part):
            found.append(value[:k] + type(value)([other]) + value[k + 1 :])
    return found


def outcome(function, given):
    try:
        return repr(function(**given))
    except StillError as error:
        return told(error)


class ValuesTest(Case):
    def test_every_function(self):
        tried = 0
        for file, functions in INTERFACE.items():
            for name, given, _ in functions:
                function = getattr(importlib.import_module(f"stillends.{file}"), name)
                for parameter, value in given.items():
                    if parameter in AS_SUCH and name not in ANY:
                        continue
                    for other in spoilt(value):
                        found = outcome(function, {**given, parameter: other})
                        tried += 1
                        if name.startswith("lets_") and parameter == "thing":
                            self.assertRegex(found, "^InvalidPaper", f"{name}({other})")
                        else:
                            expected = TOLD.get((name, parameter), f"NotUsable('{parameter}')")
                            self.assertEqual(found, expected, f"{name}({parameter}={other})")
        self.assertGreater(tried, 400)

    def test_every_class(self):
        for kind, given in (
            (PlainRun, {"task": TASK, "budget": 1}), (Run, {"guide": Guide(TASK), "budget": 1}),
            (Steered, {"task": TASK, "writer": EVEN, "budget": 1}), (Drafted, {"task": TASK, "writer": EVEN, "budget": 1, "draft": EVEN}),
        ):
            self.assertEqual(outcome(kind, {**given, "budget": True}), "NotUsable('budget')")
        self.assertEqual(outcome(Guide(TASK).run, {"budget": True}), "NotUsable('budget')")

    def test_methods(self):
        run, plain, reader = Guide(TASK).run(2), PlainRun(TASK, 2), Reader(NEST)
        for choice in (False, True, [0], (0,), "0", None):
            self.assertEqual(outcome(run.write, {"choice": choice}), f"NotLet({choice!r})")
            self.assertEqual(outcome(plain.write, {"choice": choice}), f"NotLet({choice!r})")
        for letter in (("a",), ["a"], 0, None):
            self.assertEqual(outcome(reader.push, {"letter": letter}), "NotUsable('letter')")
        self.assertEqual(outcome(run.back, {"k": False}), "NotUsable('k')")
        steered, drafted = Steered(TASK, EVEN, 1), Drafted(TASK, EVEN, 1, EVEN)
        for row in spoilt((0, 1)):
            self.assertEqual(outcome(steered.weights, {"row": row}), "NotUsable('row')")
            self.assertEqual(outcome(steered.row_pairs, {"row": row}), "NotUsable('row')")
        for tape in spoilt((3, 1)):
            self.assertEqual(outcome(steered.rank, {"tape": tape, "tree": (0,)}), "None")
        for tree in spoilt((1, 0)):
            self.assertEqual(outcome(steered.rank, {"tape": (2, 3), "tree": tree}), "None")
        for k in (True, False):
            self.assertEqual(outcome(steered.nth, {"k": k}), "NotUsable('k')")
            self.assertEqual(outcome(steered.own_tape, {"k": k}), "NotUsable('k')")
            self.assertEqual(outcome(drafted.propose, {"number": k}), "NotUsable('number')")
        for thing in spoilt(TASK):
            self.assertEqual(outcome(Library().put, {"kind": "task", "name": "t", "thing": thing}), "NotUsable('thing')")
        for thing in spoilt((CUTS, EVEN)):
            self.assertEqual(outcome(Library().put, {"kind": "writer", "name": "w", "thing": thing}), "NotUsable('thing')")
