"""What the tests share: the grammars and tokens of the document, wrong values, and how errors are compared."""

import unittest

from stillends.errors import StillError

NEST = (("s",), 0, ((0, ()), (0, ("a", 0, "b"))))
CUTS = ("a", "b", "ab")
LONE = ("a", "ab")
FREE = (1, (0,), ((0, 0, 0),))
FREE2 = (1, (0,), ((0, 0),))
EVEN = (4, ((1, 1, 1, 1),), ((0, 0, 0),))
TASK = (NEST, CUTS, FREE, "", "behind")
PAIRS = (("s", "x"), 0, ((0, (1, 1)), (1, ()), (1, ("a",))))
PART = (("s", "t", "u"), 0, ((0, (1,)), (0, ("a", 2)), (1, ("b",)), (1, (1, "c"))))

# Values of all kinds, none of which is a number, a tuple or a string of letters.
ODD = (None, True, False, -1, -(10**59), [], [0], ["a"], "\n", "a\n", (None,), (True,), ([],), ((True,),), [()])
LONG_TEXT = "a" * 1201
DEEP = ()
for _ in range(29):
    DEEP = (DEEP,)

# For tokens that are three: no rows of at most 60 tokens.
BAD_ROWS = ODD + (0, 1, "", "a", "aa", (-1,), (0, 3), (0, 1, 10**59), ("a",), ((0,),), (0, True), (0,) * 61, DEEP)
BAD_TEXTS = ODD + (0, 7, (), ("a",), LONG_TEXT, "a\nb", DEEP)
BAD_SHORTS = ODD + (61, 10**59, "1", "", (), (1,), DEEP)
# No numbers below three.
BAD_BELOW_THREE = ODD + (3, 10**59, "1", "", (), (1,), DEEP)


def told(error):
    """An error as the document writes it: its class, with its fields in brackets if it has some."""
    fields = ", ".join(repr(value) for value in vars(error).values())
    return type(error).__name__ + (f"({fields})" if fields else "")


class Case(unittest.TestCase):
    def refuses(self, expected, function, *given, **named):
        """The call raises just this error of the package."""
        with self.assertRaises(StillError, msg=f"{function.__name__}{given}{named}") as caught:
            function(*given, **named)
        self.assertEqual(told(caught.exception), expected, f"{function.__name__}{given}{named}")

    def refuses_all(self, expected, function, before, values, after=()):
        """The call raises the error for each of the values in its place."""
        for value in values:
            self.refuses(expected, function, *before, value, *after)

    def same(self, found, expected):
        """Both are equal, and True and False are not 1 and 0 in them."""
        self.assertEqual(repr(found), repr(expected))


def rows_upto(many, most):
    """All rows of at most so many of the tokens, by length."""
    rows = [()]
    last = [()]
    for _ in range(most):
        last = [row + (token,) for row in last for token in range(many)]
        rows.extend(last)
    return rows


def texts_over(letters, most):
    """All texts of at most so many of the letters, by length."""
    return ["".join(letters[k] for k in row) for row in rows_upto(len(letters), most)]
