"""[3], [17]: books, what they run through, and what they take."""

from stillends.books import free_book, lets_book, runs, takes
from tests.helpers import BAD_ROWS, CUTS, DEEP, FREE, LONE, Case, rows_upto

# Takes the rows with an even number of token 1, and none behind token 2.
BOOK = (3, (0, 2), ((0, 1, 2), (1, 0, 2), (-1, -1, -1)))


class LetsBookTest(Case):
    def test_returns_the_count(self):
        self.same(lets_book(CUTS, BOOK), 3)
        self.same(lets_book(CUTS, FREE), 1)
        self.same(lets_book(CUTS, (1, (), ((-1, -1, -1),))), 1)
        self.same(lets_book(("a",), (61, tuple(range(61)), ((60,),) * 61)), 61)

    def test_shape(self):
        rest = BOOK[1:]
        for thing in (None, True, 3, "abc", [], list(BOOK), (), BOOK[:2], BOOK + (0,), DEEP):
            self.refuses("InvalidPaper('shape', -1)", lets_book, CUTS, thing)
        for count in (None, True, False, 0, -1, -(10**70), "1", (1,), [1]):
            self.refuses("InvalidPaper('shape', -1)", lets_book, CUTS, (count,) + rest)
            self.refuses("InvalidPaper('shape', -1)", lets_book, ("a",), (count, (0,), ((0,),)))
        for wrong in (None, 0, "", [], [0]):
            self.refuses("InvalidPaper('shape', -1)", lets_book, CUTS, (3, wrong, BOOK[2]))
            self.refuses("InvalidPaper('shape', -1)", lets_book, CUTS, (3, (0, 2), wrong))

    def test_finals(self):
        for finals in ((2, 0), (0, 0), (3,), (-1,), (0, True), (False,), (0, "1"), (None,), ((0,),), (0, 1, 2, 3)):
            self.refuses("InvalidPaper('finals', -1)", lets_book, CUTS, (3, finals, BOOK[2]))
        self.refuses("InvalidPaper('finals', -1)", lets_book, CUTS, (3, (3,), ()))

    def test_table(self):
        for table in ((), BOOK[2][:2], BOOK[2] + BOOK[2], (None,)):
            self.refuses("InvalidPaper('table', -1)", lets_book, CUTS, (3, (0, 2), table))
        self.refuses("InvalidPaper('table', -1)", lets_book, CUTS, (10**70, (10**69,), BOOK[2]))

    def test_row(self):
        rows = (
            None, 0, "abc", [0, 1, 2], (), (0, 1), (0, 1, 2, 2), (0, 1, 3), (0, 1, -2), (0, 1, True), (0, False, 0),
            (0, None, 0), ("0", 1, 2), ((0,), 1, 2),
        )
        for row in rows:
            self.refuses("InvalidPaper('row', 0)", lets_book, CUTS, (3, (0, 2), (row,) + BOOK[2][1:]))
            self.refuses("InvalidPaper('row', 1)", lets_book, CUTS, (3, (0, 2), (BOOK[2][0], row, ())))


class RunsTest(Case):
    def test_by_the_definition(self):
        for row in rows_upto(3, 5):
            ones = row.count(1)
            if 2 in row[:-1]:
                expected = -1
            elif row[-1:] == (2,):
                expected = 2
            else:
                expected = ones & 1
            self.same(runs(CUTS, BOOK, row), expected)
            self.same(takes(CUTS, BOOK, row), expected in (0, 2))

    def test_stays_at_none(self):
        # Behind -1 nothing goes on, not even from the last state.
        book = (2, (0, 1), ((1, -1), (0, 0)))
        self.same(runs(LONE, book, (1, 0)), -1)
        self.same(takes(LONE, book, (1, 0)), False)

    def test_empty_row_and_long_rows(self):
        self.same(runs(CUTS, BOOK, ()), 0)
        self.same(takes(CUTS, BOOK, ()), True)
        self.same(takes(CUTS, (1, (), ((0, 0, 0),)), ()), False)
        self.same(runs(CUTS, BOOK, (1,) * 59 + (2,)), 2)
        self.same(takes(CUTS, BOOK, (1,) * 60), True)

    def test_refuse(self):
        self.refuses_all("NotUsable('row')", runs, (CUTS, BOOK), BAD_ROWS)
        self.refuses_all("NotUsable('row')", takes, (CUTS, BOOK), BAD_ROWS)


class FreeBookTest(Case):
    def test_takes_all_rows(self):
        self.same(free_book(("a",)), (1, (0,), ((0,),)))
        self.same(free_book(CUTS), FREE)
        self.same(lets_book(CUTS, free_book(CUTS)), 1)
        for row in rows_upto(3, 4):
            self.same(takes(CUTS, free_book(CUTS), row), True)
