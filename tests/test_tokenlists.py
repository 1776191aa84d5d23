"""[3], [15]: tokens, rows and their texts."""

from stillends.tokenlists import is_row, lets_tokens, row_text
from tests.helpers import BAD_ROWS, CUTS, DEEP, ODD, Case


class LetsTokensTest(Case):
    def test_returns_how_many(self):
        for tokens in (("a",), CUTS, ("ab", "a", "b", " ", "~"), ("a" * 13,)):
            self.same(lets_tokens(tokens), len(tokens))

    def test_limits_are_ignored(self):
        self.same(lets_tokens(tuple(f"t{k}" for k in range(7000))), 7000)

    def test_shape(self):
        for thing in (None, True, 1, "a", "ab", [], ["a"], ()):
            self.refuses("InvalidPaper('shape', -1)", lets_tokens, thing)

    def test_text(self):
        for token in ("", None, True, 0, 1, ("a",), ["a"], (), DEEP):
            self.refuses("InvalidPaper('text', 0)", lets_tokens, (token,))
            self.refuses("InvalidPaper('text', 2)", lets_tokens, ("a", "b", token, "a"))

    def test_letter(self):
        for token in ("\n", "a\n", "\na", "%", "a%"):
            self.refuses("InvalidPaper('letter', 1)", lets_tokens, ("a", token, ""))

    def test_twice(self):
        self.refuses("InvalidPaper('twice', 1)", lets_tokens, ("a", "a"))
        self.refuses("InvalidPaper('twice', 2)", lets_tokens, ("ab", "a", "ab", "a"))

    def test_all_checks_of_one_come_before_the_next(self):
        self.refuses("InvalidPaper('twice', 1)", lets_tokens, ("a", "a", ""))
        self.refuses("InvalidPaper('letter', 0)", lets_tokens, ("\n", "\n", 7))
        self.refuses("InvalidPaper('text', 1)", lets_tokens, ("a", "", "\n", "a"))


class RowsTest(Case):
    def test_row_text(self):
        self.same(row_text(CUTS, ()), "")
        self.same(row_text(CUTS, (2, 2, 1, 0)), "ababba")
        self.same(row_text(CUTS, (2,) * 60), "ab" * 60)

    def test_row_text_refuses(self):
        self.refuses_all("NotUsable('row')", row_text, (CUTS,), BAD_ROWS)

    def test_is_row(self):
        for row in ((), (0,), (2, 1, 0), (2,) * 60, (1,) * 6000):
            self.same(is_row(CUTS, row), True)
        for thing in ODD + (0, "", "a", (3,), (-1,), (0, 1, 3), ("a",), ((0,),), [0, 1], (0, True), (False,), DEEP):
            self.same(is_row(CUTS, thing), False)
