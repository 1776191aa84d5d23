"""[10], [20]: writers and their states."""

from stillends.writers import even_writer, lets_writer, state_behind
from tests.helpers import BAD_ROWS, CUTS, DEEP, EVEN, LONE, Case, rows_upto

# State 0 leads by token 1 to state 1, from there tokens 0 and 2 lead back.
WRITER = (5, ((1, 2, 0, 2), (0, 0, 5, 0)), ((0, 1, 0), (0, 1, 0)))


class LetsWriterTest(Case):
    def test_returns_how_many_states(self):
        self.same(lets_writer(CUTS, WRITER), 2)
        self.same(lets_writer(CUTS, EVEN), 1)
        self.same(lets_writer(("a",), (10**70, ((10**70, 0),), ((0,),))), 1)
        self.same(lets_writer(("a",), (1, ((0, 1),) * 13, ((12,),) * 13)), 13)

    def test_shape(self):
        for thing in (None, True, 5, "abc", [], list(WRITER), (), WRITER[:2], WRITER + (0,), DEEP):
            self.refuses("InvalidPaper('shape', -1)", lets_writer, CUTS, thing)
        for total in (None, True, 0, -5, "5", (5,), [5]):
            self.refuses("InvalidPaper('shape', -1)", lets_writer, CUTS, (total,) + WRITER[1:])
        self.refuses("InvalidPaper('shape', -1)", lets_writer, ("a",), (True, ((1, 0),), ((0,),)))
        for wrong in (None, 0, "ab", list(WRITER[1])):
            self.refuses("InvalidPaper('shape', -1)", lets_writer, CUTS, (5, wrong, WRITER[2]))
            self.refuses("InvalidPaper('shape', -1)", lets_writer, CUTS, (5, WRITER[1], wrong))
        self.refuses("InvalidPaper('shape', -1)", lets_writer, CUTS, (5, (), ()))
        self.refuses("InvalidPaper('shape', -1)", lets_writer, CUTS, (5, (), WRITER[2]))

    def test_nexts(self):
        for nexts in ((), WRITER[2][:1], WRITER[2] + WRITER[2], (None,)):
            self.refuses("InvalidPaper('nexts', -1)", lets_writer, CUTS, (5, WRITER[1], nexts))
        self.refuses("InvalidPaper('nexts', -1)", lets_writer, CUTS, (5, (None,), ()))

    def test_weights(self):
        wrong = (
            None, 5, "abcd", [1, 2, 0, 2], (), (1, 2, 2), (1, 2, 0, 2, 0), (1, 2, 0, 1), (1, 2, 0, 3), (6, -1, 0, 0),
            (True, 2, 0, 2), (1, 2, False, 2), (1, 2, None, 2), ("1", 2, 0, 2), ((1,), 2, 0, 2),
        )
        for shares in wrong:
            self.refuses("InvalidPaper('weights', 0)", lets_writer, CUTS, (5, (shares, ()), WRITER[2]))
            self.refuses("InvalidPaper('weights', 1)", lets_writer, CUTS, (5, (WRITER[1][0], shares), WRITER[2]))

    def test_next(self):
        for leads in (None, 0, "abc", [0, 1, 0], (), (0, 1), (0, 1, 0, 0), (0, 2, 0), (0, -1, 0), (0, True, 0), (0, "", 0)):
            self.refuses("InvalidPaper('next', 0)", lets_writer, CUTS, (5, (WRITER[1][0], ()), (leads, ())))
            self.refuses("InvalidPaper('next', 1)", lets_writer, CUTS, (5, WRITER[1], (WRITER[2][0], leads)))

    def test_all_checks_of_one_state_come_before_the_next(self):
        self.refuses("InvalidPaper('weights', 0)", lets_writer, CUTS, (5, ((), ()), ((), ())))
        self.refuses("InvalidPaper('next', 0)", lets_writer, CUTS, (5, (WRITER[1][0], ()), ((), ())))


class WritersTest(Case):
    def test_even_writer(self):
        self.same(even_writer(("a",)), (2, ((1, 1),), ((0,),)))
        self.same(even_writer(CUTS), EVEN)
        self.same(lets_writer(LONE, even_writer(LONE)), 1)

    def test_state_behind(self):
        for row in rows_upto(3, 4):
            self.same(state_behind(CUTS, WRITER, row), 1 if row[-1:] == (1,) else 0)
        self.same(state_behind(CUTS, WRITER, (1,) * 60), 1)
        chain = (1, ((0, 1),) * 12, tuple((min(k + 1, 11),) for k in range(12)))
        for k in range(15):
            self.same(state_behind(("a",), chain, (0,) * k), min(k, 11))

    def test_refuses(self):
        self.refuses_all("NotUsable('row')", state_behind, (CUTS, WRITER), BAD_ROWS)
