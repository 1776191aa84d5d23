"""[117], [118]: lines that ask a library."""

from stillends.commands import play
from stillends.guides import Guide
from stillends.libraries import Library
from stillends.plainruns import PlainRun
from tests.chances import DOUBLE
from tests.helpers import CUTS, DEEP, EVEN, FREE, FREE2, LONE, NEST, ODD, PAIRS, TASK, Case
from tests.test_longestrows import pairs_grammar
from tests.test_trees import RING

LOW = (NEST, LONE, FREE2, "", "behind")
ONE = (1, (0,), ((0,),))
SIXTY = "9" * 60


def some_house():
    house = Library()
    tasks = {
        "t": TASK, "low": LOW, "two": (DOUBLE,) + TASK[1:], "ring": (RING,) + TASK[1:], "short": (PAIRS, CUTS, FREE, "", "healed"),
        "long": (pairs_grammar(7), ("a",), ONE, "", "behind"), "many": (pairs_grammar(5), ("a",), ONE, "", "behind"), "lost": (NEST, CUTS, FREE, "b", "behind"), "a": (NEST, CUTS, FREE, "a", "healed"),
    }
    for name, task in tasks.items():
        house.put("task", name, task)
    house.put("writer", "w", (CUTS, EVEN))
    house.put("writer", "v", (LONE, (3, ((1, 1, 1),), ((0, 0),))))
    house.put("writer", "never", (CUTS, (1, ((1, 0, 0, 0),), ((0, 0, 0),))))
    return house


class PlayTest(Case):
    def replies(self, house, *lines):
        """The replies to the lines, played at once; one by one they are the same where nothing is changed."""
        return play(house, "\n".join(lines))

    def check(self, house, *pairs):
        lines, expected = zip(*pairs)
        self.same(self.replies(house, *lines), expected)

    def test_example(self):
        house = Library()
        house.put("task", "t", TASK)
        expected = ("need 1", "mask 0,2,-1", "ended 2", "refused NoSuch", "unknown")
        self.same(play(house, "need t 0\nmask t 2 -\nrun t 2 2,-1\nneed u -\nneed t  -"), expected)

    def test_need_mask_good(self):
        self.check(
            some_house(), ("need t -", "need 0"), ("need t 0,0", "need 2"), ("need t 1", "need none"), ("need lost -", "need none"),
            ("mask t 2 0", "mask 1,2"), ("mask t 0 0", "mask -"), ("mask t 0 -", "mask -1"), ("mask t 60 -", "mask 0,2,-1"), ("mask t 1 1", "mask -"),
            ("good t -", "good yes"), ("good t 0,1", "good yes"), ("good t 0,2", "good no"), ("good a -", "good no"), ("good a 2", "good yes"),
        )

    def test_run(self):
        self.check(
            some_house(), ("run t 2 -", "open -"), ("run t 2 0", "open 0"), ("run t 2 0,1", "open 0,1"), ("run t 2 0,1,-1", "ended 0,1"),
            ("run t 0 -1", "ended -"), ("run t 60 0,0,1,1,-1", "ended 0,0,1,1"), ("run t 2 1", "refused NotLet"), ("run t 2 0,-1", "refused NotLet"),
            ("run t 2 -1,-1", "refused Ended"), ("run t 2 -1,9", "refused Ended"), ("run t 2 9", "refused NotLet"), ("run lost 2 -", "refused NoEnding"),
            ("run a 0 -", "refused NoEnding"), ("run t 61 -", "refused NotUsable"), ("run a 1 2,-1", "ended 2"),
        )

    def test_questions_about_all(self):
        self.check(
            some_house(), ("spelled t", "all"), ("spelled low", "none"), ("one t", "two"), ("one low", "one"), ("careless t", "never"),
            ("careless low", "lost 1"), ("careless lost", "lost 0"), ("careless two", "refused NotOneWay"), ("longest t", "endless"),
            ("longest short", "most 2"), ("longest many", "most 32"), ("longest lost", "none"), ("longest long", "refused TooMuch"), ("spelled u", "refused NoSuch"),
            ("one u", "refused NoSuch"), ("careless u", "refused NoSuch"), ("longest u", "refused NoSuch"),
        )

    def test_total_and_nth(self):
        self.check(
            some_house(), ("total t w 1", "total 5"), ("total t w 0", "total 1"), ("total lost w 3", "total 0"), ("total low v 2", "total 12"),
            ("nth t w 1 0", "nth 2,3 1,0"), ("nth t w 1 4", "nth 3,3 0"), ("nth t w 0 0", "nth 3 0"), ("nth t w 1 5", "refused NotUsable"),
            ("total ring w 1", "refused Looped"), ("nth ring w 1 0", "refused Looped"), ("nth t never 1 0", "refused NoTape"),
            ("total t w 61", "refused NotUsable"), (f"nth t w 1 {SIXTY}", "refused NotUsable"), (f"total t w {SIXTY}", "refused NotUsable"),
        )

    def test_the_task_is_fetched_ahead_of_the_writer(self):
        self.check(
            some_house(), ("total u x 1", "refused NoSuch"), ("total t x 1", "refused NoSuch"), ("total t v 1", "refused NotUsable"),
            ("total low w 1", "refused NotUsable"), ("nth t v 61 0", "refused NotUsable"), ("total ring v 1", "refused NotUsable"),
            ("total U x 1", "refused NotUsable"), ("total t X 1", "refused NotUsable"), ("total u X 1", "refused NoSuch"),
        )

    def test_changes(self):
        house = some_house()
        self.check(
            house, ("undo", "done"), ("total t never 1", "refused NoSuch"), ("redo", "done"), ("redo", "refused NothingToUndo"), ("drop task t", "done"),
            ("need t -", "refused NoSuch"), ("undo", "done"), ("need t -", "need 0"), ("rename task t t9", "done"), ("need t9 -", "need 0"),
            ("rename task t t8", "refused NoSuch"), ("rename task t9 low", "refused Taken"), ("rename task t9 t9", "refused Taken"), ("undo", "done"),
            ("rename writer w t", "done"), ("total t t 1", "total 5"), ("redo", "refused NothingToUndo"), ("drop writer t", "done"), ("drop book t", "refused NoSuch"),
        )
        self.same((house.names_of("writer"), "t" in house.names_of("task")), (("never", "v"), True))
        self.check(Library(), ("undo", "refused NothingToUndo"), ("redo", "refused NothingToUndo"))

    def test_any_words(self):
        self.check(
            some_house(), ("need T 0", "refused NotUsable"), ("need - -", "refused NotUsable"), ("need 0 0", "refused NotUsable"), ("drop tree t", "refused NotUsable"),
            ("drop task T", "refused NotUsable"), ("rename task t T", "refused NotUsable"), ("rename x y z", "refused NotUsable"), ("spelled |", "refused NotUsable"),
            ("total t ' 1", "refused NotUsable"), ("need need 0", "refused NoSuch"),
        )

    def test_rows_that_are_none_of_the_task(self):
        self.check(
            some_house(), ("need t 3", "refused NotUsable"), ("mask t 61 0", "refused NotUsable"), ("mask t 0 0,9", "refused NotUsable"),
            ("good t " + ",".join("0" * 61), "refused NotUsable"), ("good t " + ",".join("0" * 60), "good no"), (f"need t {SIXTY}", "refused NotUsable"),
        )

    def test_unknown(self):
        lines = (
            "", " ", "need  0", "need t ", "drop  t", "drop task ", "spelled ", "rename task t ", "need", "need t", "need t 0 0", "need t  0", " need t 0", "need t 0 ", "Need t 0", "need t 00", "need t 01", "need t -1", "need t +1",
            "need t 0,", "need t ,0", "need t 0,,0", "need t 0,-1", "need t --", "need t a", "need t 0.0", "need t " + "9" * 61, "mask t 0", "mask t - 0",
            "mask t -1 0", "mask t 00 0", "mask t 0 0 0", "good t", "good t x", "run t 2", "run t 2 -2", "run t 2 -1,-", "run t -1 -", "run t 2 -01", "run t 2 0,-1,",
            "spelled", "spelled t t", "one", "one t -", "careless", "careless t 0", "longest", "longest t t", "total t w", "total t w -", "total t w 1 1", "total t 1",
            "nth t w 1", "nth t w 1 -", "nth t w 1 00", "nth t w 1 0 0", "nth t w 1 " + "9" * 61, "drop", "drop task", "drop task t t", "rename task t",
            "rename task t u v", "undo 1", "redo redo", "put task u t", "names_of task", "needless t 0", "judge t", "quit", "need t 1 0", "lost 1",
        )
        house = some_house()
        self.same(self.replies(house, *lines), ("unknown",) * len(lines))
        self.same(play(house, ""), ("unknown",))
        self.same(play(house, "\n"), ("unknown", "unknown"))
        self.same(play(house, "need t -\n"), ("need 0", "unknown"))

    def test_refused_lines_change_nothing(self):
        house = some_house()
        before = {kind: house.names_of(kind) for kind in ("task", "writer")}
        play(house, "undo\nundo\nredo\nrename task t low\ndrop task u\ndrop task T\nrename task t T\nneed t 9\nredo\nredo")
        self.same({kind: house.names_of(kind) for kind in ("task", "writer")}, before)

    def test_errors(self):
        for thing in ODD + (0, "", (), DEEP, TASK, Guide(TASK), PlainRun(TASK, 2), Guide(TASK).run(1)):
            self.refuses("NotUsable('library')", play, thing, None)
        for thing in ODD + (0, (), ("undo",), DEEP):
            if not isinstance(thing, str):
                self.refuses("NotUsable('text')", play, Library(), thing)
        self.same(play(text="undo", library=Library()), ("refused NothingToUndo",))
