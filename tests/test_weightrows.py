"""[99]: weights."""

from stillends.weightrows import lets_weights
from tests.helpers import DEEP, ODD, Case


class LetsWeightsTest(Case):
    def test_weights(self):
        for thing in ((1,), (0, 2), (0, 0, 1), (10**59, 0), (7,) * 5001, (10**90,)):
            self.same(lets_weights(thing), len(thing))

    def test_example(self):
        self.refuses("InvalidPaper('number', 2)", lets_weights, (0, 2, True))

    def test_shape(self):
        for thing in (None, True, False, -1, 0, 1, "", "1", [], [1], ()):
            self.refuses("InvalidPaper('shape', -1)", lets_weights, thing)

    def test_number(self):
        for thing in ODD + ("", "1", (), (1,), DEEP):
            self.refuses("InvalidPaper('number', 0)", lets_weights, (thing,))
            self.refuses("InvalidPaper('number', 1)", lets_weights, (1, thing))
            self.refuses("InvalidPaper('number', 1)", lets_weights, (0, thing, None))

    def test_sum(self):
        for many in (1, 2, 50):
            self.refuses("InvalidPaper('sum', -1)", lets_weights, (0,) * many)
        self.refuses("InvalidPaper('number', 2)", lets_weights, (0, 0, -1))
