"""[115], [116], [118]: the library."""

import random

from stillends.errors import StillError
from stillends.libraries import Library
from stillends.sheets import lets_sheet
from tests.forms import FORMS
from tests.helpers import CUTS, DEEP, EVEN, FREE, FREE2, LONE, NEST, ODD, PAIRS, TASK, Case, told

KINDS = ("grammar", "tokens", "book", "writer", "sheet", "task")
THINGS = {"grammar": NEST, "tokens": CUTS, "book": (CUTS, FREE), "writer": (CUTS, EVEN), "sheet": FORMS, "task": TASK}
OTHERS = {"grammar": PAIRS, "tokens": LONE, "book": (LONE, FREE2), "writer": (("a",), (1, ((1, 0),), ((0,),))), "sheet": (("none",),)}
NO_KINDS = ODD + ("", "Task", "tasks", "tree", 0, (), ("task",), DEEP)
NO_NAMES = ODD + ("", "T", "1t", "t_", "t t", "abcdefghijklm", 0, (), ("t",), DEEP)
WRONG = {
    "grammar": (TASK, CUTS, (("s",), 1, ()), [("s",), 0, ()], (["s"], 0, ())),
    "tokens": ((), ("a", "a"), ("",), ["a"], "a", ("a\n",), FORMS),
    "book": (FREE, (CUTS, FREE2), (FREE, CUTS), (CUTS, FREE, 0), [CUTS, FREE], ((), (1, (0,), ((),))), (CUTS, EVEN)),
    "writer": (EVEN, (LONE, EVEN), (EVEN, CUTS), (CUTS, EVEN, 0), [CUTS, EVEN], (CUTS, FREE)),
    "sheet": ((), (("nil",),), (("of", 0),), [("none",)], ("none",), (("or", (("none",), ("none",))),)),
    "task": (TASK[:4], TASK + (0,), list(TASK), (NEST, LONE, FREE, "", "behind"), TASK[:4] + ("ahead",), (None,) + TASK[1:]),
}


class Plain:
    """A library that keeps whole copies of what it has."""

    def __init__(self):
        self.things, self.done, self.undone = {}, [], []

    def change(self, things):
        self.done.append(dict(self.things))
        self.undone = []
        self.things = things

    def put(self, kind, name, thing):
        if (kind, name) in self.things:
            return f"Taken('{kind}', '{name}')"
        self.change({**self.things, (kind, name): thing})

    def drop(self, kind, name):
        if (kind, name) not in self.things:
            return f"NoSuch('{kind}', '{name}')"
        self.change({place: thing for place, thing in self.things.items() if place != (kind, name)})

    def rename(self, kind, name, other):
        if (kind, name) not in self.things:
            return f"NoSuch('{kind}', '{name}')"
        if (kind, other) in self.things:
            return f"Taken('{kind}', '{other}')"
        self.change({(kind, other) if place == (kind, name) else place: thing for place, thing in self.things.items()})

    def undo(self):
        if not self.done:
            return "NothingToUndo"
        self.undone.append(self.things)
        self.things = self.done.pop()

    def redo(self):
        if not self.undone:
            return "NothingToUndo"
        self.done.append(self.things)
        self.things = self.undone.pop()


def outcome(function, *given):
    """None, or the error as the document writes it."""
    try:
        return function(*given)
    except StillError as error:
        return told(error)


class LibraryTest(Case):
    def shown(self, library):
        return {(kind, name): library.thing_of(kind, name) for kind in KINDS for name in library.names_of(kind)}

    def test_as_one_with_copies(self):
        chance = random.Random(116)
        for _ in range(60):
            library, plain = Library(), Plain()
            for _ in range(60):
                method = chance.choice(("put", "put", "drop", "rename", "undo", "undo", "redo"))
                kind = chance.choice(KINDS[:2])
                given = [kind, chance.choice("abc")] if method in ("put", "drop", "rename") else []
                given += [chance.choice((THINGS[kind], OTHERS[kind]))] if method == "put" else []
                given += [chance.choice("abc")] if method == "rename" else []
                self.same(outcome(getattr(library, method), *given), getattr(plain, method)(*given))
                self.same(sorted(self.shown(library).items()), sorted(plain.things.items()))

    def test_example(self):
        house = Library()
        self.same(house.put("task", "t", TASK), None)
        self.same((house.thing_of("task", "t"), house.names_of("task"), house.names_of("book")), (TASK, ("t",), ()))

    def test_each_kind(self):
        library = Library()
        for kind in KINDS:
            # Each kind has names of its own.
            for name in ("z", "a", "m1"):
                library.put(kind, name, THINGS[kind])
            self.same(library.names_of(kind), ("a", "m1", "z"))
            self.same(library.thing_of(kind, "m1"), THINGS[kind])
            self.refuses(f"Taken('{kind}', 'a')", library.put, kind, "a", THINGS[kind])
        for kind in KINDS:
            library.rename(kind, "a", "b")
            library.drop(kind, "m1")
            self.same(library.names_of(kind), ("b", "z"))
            self.refuses(f"NoSuch('{kind}', 'a')", library.thing_of, kind, "a")

    def test_rename(self):
        library = Library()
        library.put("tokens", "a", CUTS)
        library.put("tokens", "b", LONE)
        self.refuses("Taken('tokens', 'b')", library.rename, "tokens", "a", "b")
        self.refuses("Taken('tokens', 'a')", library.rename, "tokens", "a", "a")
        self.refuses("NoSuch('tokens', 'c')", library.rename, "tokens", "c", "c")
        self.refuses("NoSuch('tokens', 'c')", library.rename, "tokens", "c", "a")
        self.refuses("NoSuch('grammar', 'a')", library.rename, "grammar", "a", "b")
        self.same(library.rename("tokens", "a", "c"), None)
        self.same((library.names_of("tokens"), library.thing_of("tokens", "c")), (("b", "c"), CUTS))

    def test_undo_and_redo(self):
        library = Library()
        self.refuses("NothingToUndo", library.undo)
        self.refuses("NothingToUndo", library.redo)
        library.put("tokens", "a", CUTS)
        library.rename("tokens", "a", "b")
        library.drop("tokens", "b")
        self.refuses("NothingToUndo", library.redo)
        for names in (("b",), ("a",), ()):
            self.same(library.undo(), None)
            self.same(library.names_of("tokens"), names)
        self.refuses("NothingToUndo", library.undo)
        for names in (("a",), ("b",), ()):
            self.same(library.redo(), None)
            self.same(library.names_of("tokens"), names)
        self.refuses("NothingToUndo", library.redo)
        # A redo can be taken back, too, and done again.
        library.undo()
        library.undo()
        library.redo()
        library.undo()
        self.same(library.names_of("tokens"), ("a",))
        library.redo()
        self.same(library.names_of("tokens"), ("b",))

    def test_redo_behind_a_change(self):
        for change in ("put", "drop", "rename"):
            library = Library()
            library.put("tokens", "a", CUTS)
            library.put("tokens", "b", LONE)
            library.undo()
            given = {"put": ("c", LONE), "drop": ("a",), "rename": ("a", "d")}[change]
            getattr(library, change)("tokens", *given)
            self.refuses("NothingToUndo", library.redo)
            library.undo()
            library.redo()
            self.refuses("NothingToUndo", library.redo)
        # What is refused is no change.
        library = Library()
        library.put("tokens", "a", CUTS)
        library.undo()
        for given in (("drop", "tokens", "a"), ("rename", "tokens", "a", "b"), ("put", "tokens", "A", CUTS), ("put", "tokens", "a", None)):
            self.assertIsNotNone(outcome(getattr(library, given[0]), *given[1:]))
        library.redo()
        self.same(library.names_of("tokens"), ("a",))

    def test_kinds(self):
        library = Library()
        for kind in NO_KINDS:
            self.refuses("NotUsable('kind')", library.put, kind, None, None)
            self.refuses("NotUsable('kind')", library.thing_of, kind, None)
            self.refuses("NotUsable('kind')", library.names_of, kind)
            self.refuses("NotUsable('kind')", library.drop, kind, None)
            self.refuses("NotUsable('kind')", library.rename, kind, None, None)

    def test_names(self):
        library = Library()
        library.put("task", "abcdefghijk9", TASK)
        for name in NO_NAMES:
            self.refuses("NotUsable('name')", library.put, "task", name, None)
            self.refuses("NotUsable('name')", library.thing_of, "task", name)
            self.refuses("NotUsable('name')", library.drop, "task", name)
            self.refuses("NotUsable('name')", library.rename, "task", name, None)
            self.refuses("NotUsable('other')", library.rename, "task", "abcdefghijk9", name)
            self.refuses("NotUsable('other')", library.rename, "task", "t", name)
        self.same(library.names_of("task"), ("abcdefghijk9",))

    def test_things(self):
        library = Library()
        for kind in KINDS:
            library.put(kind, "a", THINGS[kind])
            for thing in WRONG[kind] + ODD + ("", 0, DEEP):
                self.refuses("NotUsable('thing')", library.put, kind, "b", thing)
                self.refuses("NotUsable('thing')", library.put, kind, "a", thing)
            self.same(library.names_of(kind), ("a",))
        self.same(lets_sheet(library.thing_of("sheet", "a")), 1)

    def test_the_very_values_in_errors(self):
        library, kind, name = Library(), "tas" + "k", "na" + "me"
        for function in (library.drop, library.thing_of):
            try:
                function(kind, name)
            except StillError as error:
                self.assertTrue(error.kind is kind and error.name is name)

    def test_objects_are_apart(self):
        one, two = Library(), Library()
        one.put("task", "t", TASK)
        self.same((two.names_of("task"), outcome(two.undo)), ((), "NothingToUndo"))

    def test_names_of_parameters(self):
        library = Library()
        library.put(thing=TASK, name="t", kind="task")
        library.rename(other="u", name="t", kind="task")
        self.same((library.thing_of(name="u", kind="task"), library.names_of(kind="task")), (TASK, ("u",)))
        self.same(library.drop(name="u", kind="task"), None)
