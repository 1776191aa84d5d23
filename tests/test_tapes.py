"""[10], [21], [24]: digits, tapes, and how many tapes a row has."""

from itertools import product

from stillends.tapes import choice_of, says, tapes_of
from tests.helpers import BAD_BELOW_THREE, BAD_ROWS, BAD_SHORTS, CUTS, DEEP, EVEN, LONE, Case, rows_upto

# Token 1 has no digits in state 0, END none in state 1.
WRITER = (3, ((1, 0, 2), (2, 1, 0)), ((1, 0), (0, 1)))


class ChoiceTest(Case):
    def test_stretches(self):
        self.same([choice_of(LONE, WRITER, 0, digit) for digit in range(3)], [0, -1, -1])
        self.same([choice_of(LONE, WRITER, 1, digit) for digit in range(3)], [0, 0, 1])
        big = (10**6, ((0, 10**6 - 1, 1),), ((0, 0),))
        self.same([choice_of(LONE, big, 0, digit) for digit in (0, 10**6 - 2, 10**6 - 1)], [1, 1, -1])
        late = (4, ((0, 0, 4),), ((0, 0),))
        self.same([choice_of(LONE, late, 0, digit) for digit in range(4)], [-1] * 4)

    def test_each_weight_is_how_many_digits(self):
        for state in (0, 1):
            found = [choice_of(LONE, WRITER, state, digit) for digit in range(3)]
            self.same([found.count(choice) for choice in (0, 1, -1)], list(WRITER[1][state]))

    def test_refuses(self):
        self.refuses_all("NotUsable('state')", choice_of, (LONE, WRITER), BAD_BELOW_THREE + (2,), (0,))
        self.refuses_all("NotUsable('digit')", choice_of, (LONE, WRITER, 0), BAD_BELOW_THREE)
        self.refuses("NotUsable('state')", choice_of, LONE, WRITER, True, True)


def said(tape):
    """What the tape says, by the definition, for the tokens and the writer of these tests."""
    state = 0
    row = ()
    for k, digit in enumerate(tape):
        stretch = [choice for choice in (0, 1, -1) for _ in range(WRITER[1][state][choice])]
        if stretch[digit] == -1:
            return (row, True, k + 1)
        row += (stretch[digit],)
        state = WRITER[2][state][stretch[digit]]
    return (row, False, len(tape))


class TapesTest(Case):
    def test_says(self):
        for length in range(1, 5):
            for tape in product(range(3), repeat=length):
                self.same(says(LONE, WRITER, tape), said(tape))

    def test_says_at_the_limit(self):
        self.same(says(CUTS, EVEN, (3,)), ((), True, 1))
        self.same(says(CUTS, EVEN, (1,) * 61), ((1,) * 61, False, 61))
        self.same(says(CUTS, EVEN, (1,) * 60 + (3,)), ((1,) * 60, True, 61))
        self.same(says(CUTS, EVEN, (3,) * 61), ((), True, 1))

    def test_says_refuses(self):
        wrong = (None, True, 0, "", "0", (), [], [0], (0, True), (False,), (-1,), (4,), (3, 4), ("0",), ((0,),), DEEP)
        self.refuses_all("NotUsable('tape')", says, (CUTS, EVEN), wrong + ((0,) * 62, (3, 9), (None,)))

    def test_tapes_of_counts_the_tapes(self):
        for budget in range(4):
            told = [said(tape) for tape in product(range(3), repeat=budget + 1)]
            for row in rows_upto(2, 4):
                many = len([row_said for row_said, ended, _ in told if ended and row_said == row])
                self.same(tapes_of(LONE, WRITER, row, budget), many)

    def test_tapes_of_edges(self):
        self.same(tapes_of(CUTS, EVEN, (), 0), 1)
        self.same(tapes_of(CUTS, EVEN, (), 60), 4**60)
        self.same(tapes_of(CUTS, EVEN, (0,) * 60, 60), 1)
        self.same(tapes_of(CUTS, EVEN, (0,) * 60, 59), 0)
        self.same(tapes_of(CUTS, EVEN, (0,), 0), 0)
        self.same(tapes_of(CUTS, (4, ((2, 1, 0, 1),), ((0, 0, 0),)), (0, 0, 1), 5), 4 * 1 * 1 * 16)

    def test_tapes_of_refuses(self):
        self.refuses_all("NotUsable('row')", tapes_of, (CUTS, EVEN), BAD_ROWS, (1,))
        self.refuses_all("NotUsable('budget')", tapes_of, (CUTS, EVEN, (0, 0)), BAD_SHORTS)
        self.refuses("NotUsable('row')", tapes_of, CUTS, EVEN, [0], 61)
