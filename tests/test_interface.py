"""The interface exists as it is written: files, names, parameters, by position or by name."""

import importlib
import inspect
import unittest

from tests.helpers import CUTS, EVEN, FREE, FREE2, LONE, NEST, PAIRS, TASK

LOW = (NEST, LONE, FREE2, "", "behind")
NO_TEXTS = ((("s",), 0, ()),) + TASK[1:]
NOTHING = (("list", ("of", 0), 1, 2),)
STAR = ("star", ("letter", "a"))
MOST = ("most", (0, 0), ((0, 0, 0, 2), (0, 1, 0, 1)))
SHORT = (PAIRS, CUTS, FREE, "", "healed")
ROAD = (2, ((0, "a", 0, 1), (0, "b", 1, 0), (1, "b", 0, 3), (1, "b", 1, 1)))

# For each file: each function with its parameters, and values for them with the result.
INTERFACE = {
    "letters": (
        ("is_letter", {"thing": "a"}, True),
        ("is_text", {"thing": "ab"}, True),
        ("is_number", {"thing": 3}, True),
    ),
    "tokenlists": (
        ("lets_tokens", {"thing": CUTS}, 3),
        ("row_text", {"tokens": CUTS, "row": (2, 0)}, "aba"),
        ("is_row", {"tokens": CUTS, "thing": (2, 0)}, True),
    ),
    "tries": (
        ("inner_texts", {"tokens": CUTS}, ("", "a")),
        ("token_number", {"tokens": CUTS, "text": "ab"}, 2),
    ),
    "books": (
        ("lets_book", {"tokens": CUTS, "thing": FREE}, 1),
        ("runs", {"tokens": CUTS, "book": FREE, "row": (1,)}, 0),
        ("takes", {"tokens": CUTS, "book": FREE, "row": (1,)}, True),
        ("free_book", {"tokens": CUTS}, FREE),
    ),
    "pairbooks": (("pairs_book", {"tokens": CUTS, "pairs": ()}, FREE),),
    "canon": (
        ("longest_row", {"tokens": CUTS, "text": "ab"}, (2,)),
        ("canon_book", {"tokens": ("a",)}, (1, (0,), ((0,),))),
    ),
    "writers": (
        ("lets_writer", {"tokens": CUTS, "thing": EVEN}, 1),
        ("even_writer", {"tokens": CUTS}, EVEN),
        ("state_behind", {"tokens": CUTS, "writer": EVEN, "row": (0,)}, 0),
    ),
    "tapes": (
        ("choice_of", {"tokens": CUTS, "writer": EVEN, "state": 0, "digit": 2}, 2),
        ("says", {"tokens": CUTS, "writer": EVEN, "tape": (2, 3)}, ((2,), True, 2)),
        ("tapes_of", {"tokens": CUTS, "writer": EVEN, "row": (2,), "budget": 2}, 4),
    ),
    "spellers": (
        (
            "speller",
            {"tokens": ("a",), "book": (1, (0,), ((0,),)), "begun": "", "mode": "healed"},
            (((0, 0, ""),), (0,), ((0, "a", 0, 0),)),
        ),
        ("place_behind", {"tokens": CUTS, "book": FREE, "begun": "a", "mode": "healed", "row": (2,)}, (1, 0, "")),
        (
            "priced",
            {"tokens": ("a",), "book": (1, (0,), ((0,),)), "begun": "", "mode": "healed"},
            (1, ((0, "a", 0, 1),)),
        ),
    ),
    "grammars": (("lets_grammar", {"thing": NEST}, 2),),
    "trees": (
        ("lets_tree", {"grammar": NEST, "thing": (1, 0)}, 0),
        ("kids", {"grammar": NEST, "tree": (1, 0)}, ((0,),)),
        ("grafted", {"grammar": NEST, "rule": 1, "kids": ((0,),)}, (1, 0)),
        ("is_of_grammar", {"grammar": NEST, "thing": (1, 0)}, True),
    ),
    "treetexts": (
        ("tree_text", {"grammar": NEST, "tree": (1, 0)}, "ab"),
        ("spans", {"grammar": NEST, "tree": (1, 0)}, ((0, 2), (1, 1))),
    ),
    "usefulness": (
        ("useful_parts", {"grammar": NEST}, ((0,), (0, 1))),
        ("least_tree", {"grammar": NEST, "name": 0}, (0,)),
    ),
    "nulls": (
        ("nullable_names", {"grammar": NEST}, (0,)),
        ("least_letters", {"grammar": NEST}, (0,)),
        ("first_looped", {"grammar": NEST}, None),
    ),
    "members": (
        ("in_grammar", {"grammar": NEST, "text": "ab"}, True),
        ("begins", {"grammar": NEST, "text": "aa"}, True),
        ("spans_of", {"grammar": NEST, "text": "a"}, ((0, 0, 0), (1, 0, 1))),
    ),
    "listings": (("texts_upto", {"grammar": NEST, "most": 2}, ("", "ab")),),
    "treecounts": (("count_trees", {"grammar": PAIRS, "text": "a"}, 2),),
    "treenumbers": (
        ("nth_tree", {"grammar": PAIRS, "text": "a", "k": 1}, (0, 2, 1)),
        ("rank_tree", {"grammar": PAIRS, "tree": (0, 2, 1)}, 1),
    ),
    "machines": (
        ("lets_machine", {"thing": ROAD}, 2),
        ("text_price", {"machine": ROAD, "here": 0, "there": 1, "text": "ab"}, 1),
    ),
    "meets": (
        ("prices", {"grammar": NEST, "machine": ROAD}, ((0, 0, 0, 0), (0, 0, 1, 1), (1, 0, 1, 0))),
        ("least_three", {"grammar": NEST, "machine": ROAD, "here": 0, "name": 0, "there": 1}, (1, 2, 2)),
    ),
    "leastways": (
        ("least_way", {"grammar": NEST, "machine": ROAD, "here": 0, "name": 0, "there": 1}, ((1, 0), (0, 0, 1))),
        (
            "way_price",
            {"grammar": NEST, "machine": ROAD, "here": 0, "name": 0, "there": 1, "thing": ((1, 0), (0, 0, 1))},
            1,
        ),
    ),
    "floors": (
        ("floor_holds", {"grammar": NEST, "machine": (1, ()), "table": ((0, 0, 0, 0),)}, True),
        ("cut_table", {"table": ((0, 0, 1, 7),), "most": 3}, ((0, 0, 1, 3),)),
    ),
    "closedlists": (
        ("items_of", {"grammar": NEST, "machine": ROAD}, ((0, 0, 0), (0, 0, 1), (1, 0, 1))),
        ("closed_list", {"grammar": NEST, "machine": (1, ()), "items": ((0, 0, 0),)}, True),
    ),
    "chains": (("chained", {"machine": (1, ()), "state": 0, "text": "a"}, ((2, ((1, "a", 0, 0),)), 1)),),
    "shortest": (
        ("shortest_text", {"grammar": NEST}, ("", (0,))),
        ("shortest_taken", {"grammar": NEST, "machine": ROAD, "state": 0, "finals": (1,)}, ("ab", (1, 0))),
    ),
    "insides": (
        ("inside", {"task": TASK, "writer": EVEN, "most": 0}, ((0, 0, 0, 0, 0, 0, 1), (1, 0, 0, 1, 0, 0, 1))),
    ),
    "tasks": (
        ("lets_task", {"thing": TASK}, 3),
        ("is_good", {"task": TASK, "row": (2,)}, True),
        ("letters_read", {"task": TASK, "row": (2,)}, "ab"),
    ),
    "needing": (
        ("need", {"task": TASK, "row": (0,)}, 1),
        ("needs", {"task": TASK, "row": (0,)}, (2, 0, 1)),
    ),
    "masks": (
        ("mask", {"task": TASK, "row": (0,), "left": 2}, ((1, 2), False)),
        ("settled", {"task": TASK, "row": (0,)}, 3),
    ),
    "endings": (("ending", {"task": TASK, "row": (0,)}, ((1,), (1, 0))),),
    "respells": (("rows_of", {"task": TASK, "text": "ab"}, ((2,), (0, 1))),),
    "refusals": (
        ("why_not", {"task": (NEST, CUTS, FREE, "a", "healed"), "row": (1,), "left": 3}, ()),
        ("judge_why_not", {"task": TASK, "row": (0,), "left": 0, "table": ()}, False),
    ),
    "walks": (("stood_at", {"task": TASK, "row": (0,), "left": 2}, ("", "a")),),
    "faults": (
        ("lets_custom", {"tokens": CUTS, "budget": 1, "thing": (((0,), (-1,)),)}, 1),
        ("fault", {"task": TASK, "budget": 1, "custom": ()}, ("stuck", ())),
        ("mask_custom", {"task": TASK, "budget": 0}, (((), (-1,)),)),
        ("safe_customs", {"task": TASK, "budget": 1}, 3),
    ),
    "firsts": (("first_letters", {"grammar": NEST}, (("a",),)),),
    "follows": (("follow_letters", {"grammar": NEST}, (("", "b"),)),),
    "predicting": (
        ("predicts", {"grammar": NEST}, (("", "b"), ("a",))),
        ("first_clash", {"grammar": PAIRS}, (1, 1, 2, "a")),
        ("reads_one_way", {"grammar": NEST}, True),
    ),
    "ranks": (
        ("left_ranks", {"grammar": NEST}, (0,)),
        ("empty_sizes", {"grammar": NEST}, (1,)),
    ),
    "stands": (
        ("stand_behind", {"grammar": NEST, "text": "a"}, (0, "b")),
        ("push_letter", {"grammar": NEST, "stand": (0, "b"), "letter": "b"}, ()),
        ("may_end", {"grammar": NEST, "stand": (0, 0)}, True),
    ),
    "nextletters": (
        ("next_letters", {"grammar": NEST, "text": "a"}, (("a", "b"), False)),
        ("sure_beginning", {"grammar": NEST, "text": "aba"}, 2),
    ),
    "readings": (("read_tree", {"grammar": NEST, "text": "ab"}, (1, 0)),),
    "vectors": (("stand_vector", {"task": TASK, "stand": (0, "b")}, (1, 1)),),
    "quickneeds": (
        ("quick_need", {"task": TASK, "row": (0,)}, 1),
        ("quick_needs", {"task": TASK, "row": (0,)}, (2, 0, 1)),
    ),
    "suretexts": (("sure_text", {"task": TASK, "row": (0,), "left": 1}, "b"),),
    "surerules": (("sure_rules", {"task": TASK, "row": (0,), "left": 1}, (0,)),),
    "goodpairs": (
        ("is_good_pair", {"task": TASK, "writer": EVEN, "budget": 1, "thing": ((2, 3), (1, 0))}, True),
    ),
    "totals": (("total", {"task": TASK, "writer": EVEN, "row": (), "left": 1}, 5),),
    "stepweights": (
        ("step_weights", {"task": TASK, "writer": EVEN, "budget": 1, "row": ()}, (0, 0, 1, 4)),
        ("row_pairs", {"task": TASK, "writer": EVEN, "budget": 1, "row": (2,)}, 1),
    ),
    "pairnumbers": (
        ("nth_pair", {"task": TASK, "writer": EVEN, "budget": 1, "k": 0}, ((2, 3), (1, 0))),
        ("rank_pair", {"task": TASK, "writer": EVEN, "budget": 1, "tape": (3, 2), "tree": (0,)}, 3),
    ),
    "firsttrees": (("own_tape", {"task": TASK, "writer": EVEN, "budget": 1, "k": 0}, (2, 3)),),
    "meanlengths": (("mean_length", {"task": TASK, "writer": EVEN, "budget": 1}, (1, 5)),),
    "besttapes": (
        (
            "likeliest",
            {"task": TASK, "writer": EVEN, "budget": 0},
            ((), 1, ((0, 0, 0, 0, 0, 0, 1), (1, 0, 0, 1, 0, 0, 1))),
        ),
    ),
    "ceilings": (("judge_likeliest", {"task": TASK, "writer": EVEN, "budget": 0, "answer": ()}, False),),
    "setmachines": (
        (
            "machine_of",
            {"task": (NEST, ("ab",), (1, (0,), ((0,),)), "", "behind"), "question": "one"},
            ((2, ((0, "a", 1, 1), (1, "b", 0, 1))), ()),
        ),
    ),
    "spelledall": (("spelled_all", {"task": NO_TEXTS}, ("all", ())),),
    "onerow": (("one_row", {"task": NO_TEXTS}, ("one", ())),),
    "sparing": (("needless", {"task": NO_TEXTS, "drop": (0,)}, ("needless", ())),),
    "carelessrows": (
        ("careless_choices", {"task": LOW, "row": (0,)}, (0, 1)),
        ("careless", {"task": NO_TEXTS}, ("lost", (), ())),
    ),
    "lostrows": (("lost_within", {"task": LOW, "most": 3}, (0,)),),
    "longestrows": (("longest", {"task": SHORT}, MOST),),
    "judges": (("judge", {"task": SHORT, "question": "longest", "answer": MOST}, True),),
    "weightrows": (("lets_weights", {"thing": (0, 2)}, 2),),
    "couples": (
        ("couple", {"target": (3, 1), "draft": (1, 1), "number": 6}, (1, 0)),
        ("kept", {"target": (3, 1), "draft": (1, 1)}, 6),
    ),
    "meankept": (("mean_kept", {"task": TASK, "writer": EVEN, "budget": 1, "draft": EVEN}, (1, 2)),),
    "cutweights": (
        ("cut_share", {"task": TASK, "writer": EVEN, "budget": 1, "row": (2,)}, (1, 2)),
        ("cut_same", {"task": TASK, "writer": EVEN, "budget": 1}, ("unlike", ())),
    ),
    "distances": (("distance", {"task": TASK, "writer": EVEN, "budget": 1}, (3, 10)),),
    "sheets": (
        ("lets_sheet", {"thing": (("none",),)}, 1),
        ("first_signs", {"sheet": (("truth",),), "k": 0}, ("f", "t")),
    ),
    "sheetgrammars": (("form_grammar", {"sheet": NOTHING}, (("n0",), 0, ())),),
    "formvalues": (
        ("fits", {"sheet": (("none",),), "thing": None}, True),
        ("count_values", {"sheet": (("whole", 1),)}, 19),
    ),
    "valuetexts": (
        ("value_text", {"sheet": (("list", ("none",), 0, 2),), "value": [None]}, "[null]"),
        ("text_value", {"sheet": (("list", ("none",), 0, 2),), "text": "[null]"}, [None]),
    ),
    "patterns": (
        ("lets_pattern", {"thing": STAR}, 2),
        ("matches", {"pattern": STAR, "text": "aa"}, True),
    ),
    "patternmachines": (
        ("pattern_machine", {"pattern": STAR}, (1, (0,), ((0, "a", 0),))),
        ("first_parted", {"pattern": STAR, "other": ("letter", "a")}, ""),
        ("pattern_grammar", {"pattern": STAR}, (("q0",), 0, ((0, ()), (0, ("a", 0))))),
    ),
    "grammartexts": (
        ("grammar_lines", {"grammar": NEST}, "start s\ns = - | 'a' s 'b'"),
        ("read_grammar", {"text": "start s\ns ="}, (("s",), 0, ())),
    ),
    "tokentexts": (
        ("token_lines", {"tokens": CUTS}, "a\nb\nab"),
        ("read_tokens", {"text": "a\nab"}, ("a", "ab")),
        ("book_lines", {"tokens": CUTS, "book": FREE}, "1: 0\n0 0 0"),
        ("read_book", {"tokens": CUTS, "text": "1: 0\n0 0 0"}, FREE),
    ),
}

RUN_METHODS = {"row": (), "text": (), "left": (), "ended": (), "need": (), "choices": (), "looked": (), "tree": ()}
RUN_METHODS["write"] = ("choice",)

# For each file with a class: the class, the parameters of making it, and those of its methods.
CLASSES = {
    "plainruns": ("PlainRun", ("task", "budget"), RUN_METHODS),
    "readers": ("Reader", ("grammar",), {"push": ("letter",), "text": (), "stand": (), "rules": (), "end": ()}),
    "guides": ("Guide", ("task",), {"task": (), "run": ("budget",)}),
    "liveruns": (
        "Run",
        ("guide", "budget"),
        dict(RUN_METHODS, rules=(), sure_text=(), sure_rules=(), back=("k",), fork=(), guide=()),
    ),
    "steering": (
        "Steered",
        ("task", "writer", "budget"),
        {
            "total": (), "weights": ("row",), "row_pairs": ("row",), "nth": ("k",), "rank": ("tape", "tree"), "own_tape": ("k",),
            "mean_length": (),
        },
    ),
    "drafts": (
        "Drafted",
        ("task", "writer", "budget", "draft"),
        {"row": (), "ended": (), "total": (), "propose": ("number",)},
    ),
    "libraries": (
        "Library",
        (),
        {
            "put": ("kind", "name", "thing"), "thing_of": ("kind", "name"), "names_of": ("kind",), "drop": ("kind", "name"),
            "rename": ("kind", "name", "other"), "undo": (), "redo": (),
        },
    ),
}


class InterfaceTest(unittest.TestCase):
    def each(self):
        for file, functions in INTERFACE.items():
            for name, given, result in functions:
                function = getattr(importlib.import_module(f"stillends.{file}"), name)
                yield file, function, given, result

    def test_defined_in_the_file_with_these_parameters(self):
        for file, function, given, _ in self.each():
            self.assertEqual(function.__module__, f"stillends.{file}")
            self.assertEqual(list(inspect.signature(function).parameters), list(given), function.__name__)

    def test_called_by_name_in_any_sequence(self):
        for _, function, given, result in self.each():
            turned = dict(reversed(list(given.items())))
            self.assertEqual(repr(function(**turned)), repr(result), function.__name__)

    def test_called_by_position_and_asked_again(self):
        for _, function, given, result in self.each():
            before = repr(given)
            for _ in range(2):
                self.assertEqual(repr(function(*given.values())), repr(result), function.__name__)
            self.assertEqual(repr(given), before, function.__name__)

    def test_classes_define_their_methods_themselves(self):
        for file, (name, made, methods) in CLASSES.items():
            kind = getattr(importlib.import_module(f"stillends.{file}"), name)
            self.assertEqual(kind.__module__, f"stillends.{file}")
            self.assertEqual(tuple(inspect.signature(kind).parameters), made, name)
            for method, parameters in methods.items():
                self.assertIn(method, vars(kind), name)
                found = tuple(inspect.signature(vars(kind)[method]).parameters)[1:]
                self.assertEqual(found, parameters, f"{name}.{method}")

    def test_carry(self):
        carry = importlib.import_module("stillends.carries").carry
        self.assertEqual(carry.__module__, "stillends.carries")
        self.assertEqual(tuple(inspect.signature(carry).parameters), ("run", "grammar", "tokens", "book"))

    def test_play(self):
        play = importlib.import_module("stillends.commands").play
        self.assertEqual(play.__module__, "stillends.commands")
        self.assertEqual(tuple(inspect.signature(play).parameters), ("library", "text"))

    def test_nothing_is_left_out(self):
        # The headings of the document name 137 functions, two of which stand in tests of their own, and 7 classes.
        self.assertEqual(sum(len(functions) for functions in INTERFACE.values()) + 2, 137)
        self.assertEqual(len(CLASSES), 7)
