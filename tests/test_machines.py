"""[8], [36], [37]: machines, and what reading a text costs."""

import random

from stillends.books import takes
from stillends.machines import lets_machine, text_price
from stillends.spellers import priced, speller
from stillends.tokenlists import row_text
from tests.definitions import some_machine, ways_of
from tests.helpers import BAD_TEXTS, CUTS, DEEP, FREE, LONG_TEXT, ODD, Case, rows_upto, texts_over
from tests.test_spellers import some_case

ROAD = (2, ((0, "a", 0, 1), (0, "b", 1, 0), (1, "b", 0, 3), (1, "b", 1, 1)))
# For a machine of two states: no states of it.
NO_STATES = ODD + (2, 10**59, "0", "", (), (0,), DEEP)


class LetsMachineTest(Case):
    def test_machines(self):
        self.same(lets_machine(ROAD), 2)
        self.same(lets_machine((1, ())), 1)
        self.same(lets_machine((7, ())), 7)
        self.same(lets_machine(priced(CUTS, FREE, "ab", "healed")), priced(CUTS, FREE, "ab", "healed")[0])
        chance = random.Random(36)
        for _ in range(50):
            machine = some_machine(chance)
            self.same(lets_machine(machine), machine[0])

    def test_limits_do_not_count(self):
        self.same(lets_machine((10**70, ((10**69, "a", 0, 10**80),))), 10**70)
        self.same(lets_machine((3000, tuple((k, "a", k, 1001) for k in range(3000)))), 3000)

    def test_shape(self):
        wrong = (
            None, True, 0, "", "ab", (), (1,), (1, (), ()), [1, ()], (0, ()), (-1, ()), (True, ()), ("1", ()), (None, ()),
            ((1,), ()), (1, []), (1, None), (1, 0), (1, "a"), ((), 1), DEEP,
        )
        for thing in wrong:
            self.refuses("InvalidPaper('shape', -1)", lets_machine, thing)

    def test_arc(self):
        good = (0, "a", 0, 0)
        wrong = (
            None, 0, "", "a", (), [0, "a", 0, 0], (0, "a", 0), (0, "a", 0, 0, 0), (2, "a", 0, 0), (-1, "a", 0, 0),
            (True, "a", 0, 0), (0, "a", 2, 0), (0, "a", False, 0), (0, "a", None, 0), (0, "", 0, 0), (0, "ab", 0, 0),
            (0, "\n", 0, 0), (0, 0, 0, 0), (0, "a", 0, -1), (0, "a", 0, True), (0, "a", 0, "1"), (0, "a", 0, None),
            (0, chr(37), 0, 0), (0, ("a",), 0, 0), ("0", "a", 0, 0), ((0,), "a", 0, 0),
        )
        for arc in wrong:
            self.refuses("InvalidPaper('arc', 0)", lets_machine, (2, (arc,)))
            self.refuses("InvalidPaper('arc', 1)", lets_machine, (2, (good, arc)))
            self.refuses("InvalidPaper('arc', 0)", lets_machine, (2, (arc, good, good)))

    def test_order(self):
        for first, second in (
            ((1, "a", 0, 0), (0, "b", 1, 9)),
            ((0, "b", 0, 0), (0, "a", 1, 9)),
            ((0, "a", 1, 0), (0, "a", 0, 9)),
            ((0, "a", 1, 2), (0, "a", 1, 1)),
            ((0, "a", 1, 2), (0, "a", 1, 2)),
        ):
            self.refuses("InvalidPaper('order', 1)", lets_machine, (2, (first, second)))
            self.refuses("InvalidPaper('order', 2)", lets_machine, (2, ((0, " ", 0, 0), first, second)))

    def test_twice(self):
        self.refuses("InvalidPaper('twice', 1)", lets_machine, (2, ((0, "a", 1, 0), (0, "a", 1, 1))))
        self.refuses("InvalidPaper('twice', 2)", lets_machine, (2, ((0, "a", 0, 0), (0, "a", 1, 0), (0, "a", 1, 8))))

    def test_one_arc_after_another(self):
        # An arc that is not ascending comes ahead of a later one that is none.
        self.refuses("InvalidPaper('order', 1)", lets_machine, (2, ((0, "a", 1, 0), (0, "a", 0, 0), None)))
        self.refuses("InvalidPaper('twice', 1)", lets_machine, (2, ((0, "a", 1, 0), (0, "a", 1, 2), None)))
        self.refuses("InvalidPaper('arc', 1)", lets_machine, (2, ((0, "b", 1, 0), None, (0, "a", 1, 0))))


class TextPriceTest(Case):
    def test_by_ways(self):
        chance = random.Random(37)
        for _ in range(60):
            machine = some_machine(chance)
            for here in range(machine[0]):
                for text in texts_over("ab", 4):
                    found = {}
                    for states, price in ways_of(machine, here, text):
                        found[states[-1]] = min(price, found.get(states[-1], price))
                    for there in range(machine[0]):
                        self.same(text_price(machine, here, there, text), found.get(there))

    def test_rows_of_a_task(self):
        # The price of a way is the length of the row: the least one is that of a shortest row with the text.
        chance = random.Random(371)
        for _ in range(40):
            tokens, book, begun = some_case(chance)
            for mode in ("behind", "healed"):
                machine = priced(tokens, book, begun, mode)
                finals = speller(tokens, book, begun, mode)[1]
                lengths = {}
                for row in [row for row in rows_upto(len(tokens), 4) if takes(tokens, book, row)]:
                    text = (begun if mode == "behind" else "") + row_text(tokens, row)
                    lengths.setdefault(text, len(row))
                for text in [text for text in texts_over("ab", 4) if text.startswith(begun)]:
                    costs = [text_price(machine, 0, final, text) for final in finals]
                    costs = [cost for cost in costs if cost is not None]
                    self.same(min(costs, default=None), lengths.get(text))

    def test_edges(self):
        self.same(text_price(ROAD, 0, 0, "aabb"), 5)
        self.same(text_price(ROAD, 0, 0, ""), 0)
        self.same(text_price(ROAD, 0, 1, ""), None)
        self.same(text_price(ROAD, 0, 1, "x"), None)
        self.same(text_price((1, ()), 0, 0, ""), 0)
        self.same(text_price((1, ()), 0, 0, "a"), None)

    def test_up_to_the_limits(self):
        self.same(text_price((1, ((0, "a", 0, 1000),)), 0, 0, "a" * 1200), 1200000)
        arcs = sorted((k, "ab"[j % 2], (k + j) % 400, 1000 - j) for k in range(400) for j in range(10))
        # The longest steps, eight or nine states on, are the cheapest ones, and lead back to where they began.
        self.same(text_price((400, tuple(arcs)), 0, 0, "a" * 1200), 1200 * 992)
        self.same(text_price((400, tuple(arcs)), 0, 0, "b" * 1200), 1200 * 991)

    def test_refuses(self):
        self.refuses_all("NotUsable('here')", text_price, (ROAD,), NO_STATES, (0, "a"))
        self.refuses_all("NotUsable('there')", text_price, (ROAD, 0), NO_STATES, ("a",))
        self.refuses_all("NotUsable('text')", text_price, (ROAD, 0, 0), BAD_TEXTS)
        self.refuses("NotUsable('here')", text_price, ROAD, 2, 2, None)
        self.refuses("NotUsable('there')", text_price, ROAD, 1, 2, None)
        self.refuses("NotUsable('text')", text_price, ROAD, 0, 0, LONG_TEXT)
