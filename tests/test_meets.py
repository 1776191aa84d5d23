"""[8], [38], [45]: least prices and least threes of items."""

import random

from stillends.floors import floor_holds
from stillends.machines import text_price
from stillends.meets import least_three, prices
from tests.definitions import all_items, some_machine, threes_by_growing, ways_with_trees
from tests.helpers import NEST, PAIRS, Case, texts_over
from tests.test_machines import NO_STATES, ROAD
from tests.test_trees import GRAMMARS, ODD_ONES, RING
from tests.test_usefulness import some_grammar


def some_pairs(seed, many):
    """Pairs of a grammar and a machine, small, by chance."""
    chance = random.Random(seed)
    pairs = [(some_grammar(chance), some_machine(chance)) for _ in range(many)]
    return pairs + [(grammar, ROAD) for grammar in GRAMMARS]


def big_machine(seed, letters, most_price):
    """A machine of 400 states and 4,000 arcs."""
    chance = random.Random(seed)
    found = {}
    while len(found) < 4000:
        found[(chance.randrange(400), chance.choice(letters), chance.randrange(400))] = chance.randint(0, most_price)
    return (400, tuple(sorted(arc + (price,) for arc, price in found.items())))


class PricesTest(Case):
    def test_by_growing(self):
        for grammar, machine in some_pairs(38, 250):
            least = threes_by_growing(grammar, machine)
            expected = tuple(sorted(item + (three[0],) for item, three in least.items()))
            self.same(prices(grammar, machine), expected)
            self.same(floor_holds(grammar, machine, expected), True)

    def test_no_text_is_read_for_less(self):
        for grammar in (NEST, PAIRS, RING):
            chance = random.Random(381)
            for _ in range(8):
                machine = some_machine(chance)
                found = {row[:3]: row[3] for row in prices(grammar, machine)}
                for here, name, there in all_items(grammar, machine):
                    texts = self.texts(grammar, name)
                    told = [text_price(machine, here, there, text) for text in texts]
                    told = [price for price in told if price is not None]
                    if told:
                        self.assertLessEqual(found[(here, name, there)], min(told))
                    elif grammar is PAIRS:
                        self.assertNotIn((here, name, there), found)

    def texts(self, grammar, name):
        if grammar is NEST:
            return ["a" * k + "b" * k for k in range(5)]
        return ["", "a"] + (["aa"] if name == 0 else []) + (["aaa"] if grammar is RING else [])

    def test_edges(self):
        self.same(prices(NEST, (1, ())), ((0, 0, 0, 0),))
        self.same(prices(NEST, (3, ())), ((0, 0, 0, 0), (1, 0, 1, 0), (2, 0, 2, 0)))
        self.same(prices((("s",), 0, ()), ROAD), ())
        self.same(prices((("s",), 0, ((0, (0,)),)), ROAD), ())
        self.same(prices((("s",), 0, ((0, ("x",)),)), ROAD), ())

    def test_useless_names_count(self):
        found = prices(ODD_ONES, (1, ((0, "a", 0, 2), (0, "c", 0, 3), (0, "d", 0, 4))))
        self.same(found, ((0, 0, 0, 0), (0, 3, 0, 0)))
        self.same(prices((("s", "t"), 0, ((1, ("b",)),)), ROAD), ((0, 1, 1, 0), (1, 1, 0, 3), (1, 1, 1, 1)))

    def test_prices_of_zero(self):
        arcs = tuple((k, letter, (k + 1) % 5, 0) for k in range(5) for letter in "ab")
        found = prices(RING, (5, arcs))
        self.same(found, tuple((p, 0, q, 0) for p in range(5) for q in range(5)))

    def test_numbers_of_any_size(self):
        names = tuple(f"n{k}" for k in range(60))
        rules = tuple((k, (k + 1,) * 12 if k < 59 else ("a",) * 12) for k in range(60))
        machine = (3, ((0, "a", 1, 999), (1, "a", 2, 1000), (2, "a", 0, 0)))
        found = {row[:3]: row[3] for row in prices((names, 0, rules), machine)}
        self.same(found[(0, 0, 0)], 1999 * 12**60 // 3)
        self.same(len(found), 180)
        self.same(least_three((names, 0, rules), machine, 2, 0, 2), (1999 * 12**60 // 3, 12**60, (12**60 - 1) // 11))
        self.same(least_three((names, 0, rules), machine, 2, 0, 1), None)

    def test_up_to_the_limits(self):
        for machine in (big_machine(1, "ab", 1), big_machine(2, "abcdefgh", 1000)):
            found = prices(NEST, machine)
            self.assertTrue(floor_holds(NEST, machine, found))
            told = {row[:3]: row[3] for row in found}
            for here, name, there, price in found[:: len(found) // 3]:
                self.same(least_three(NEST, machine, here, name, there)[0], price)
            self.same([told[(k, 0, k)] for k in range(400)], [0] * 400)

    def test_names_that_derive_one_another_around(self):
        names = tuple(f"n{k}" for k in range(60))
        rules = tuple(
            rule for k in range(60) for rule in ((k, ("a", (k + 1) % 60)), (k, ((k + 1) % 60,)))
        ) + ((59, ("b",)),)
        machine = (4, tuple(sorted((k, c, (k + 1) % 4, k) for k in range(4) for c in "ab")))
        found = {row[:3]: row[3] for row in prices((names, 0, rules), machine)}
        self.same(len(found), 60 * 16)
        for name in range(60):
            self.same(found[(0, name, 1)], 0)
            self.same(found[(1, name, 1)], 6)


class LeastThreeTest(Case):
    def test_by_growing(self):
        for grammar, machine in some_pairs(382, 120):
            least = threes_by_growing(grammar, machine)
            for item in all_items(grammar, machine):
                self.same(least_three(grammar, machine, *item), least.get(item))

    def test_by_ways_with_trees(self):
        chance = random.Random(383)
        for _ in range(40):
            grammar, machine = some_grammar(chance), some_machine(chance, 3)
            for name in range(len(grammar[0])):
                least = {}
                for here, there, three, _, _ in ways_with_trees(grammar, machine, name, 4):
                    least[(here, there)] = min(three, least.get((here, there), three))
                for (here, there), three in least.items():
                    told = least_three(grammar, machine, here, name, there)
                    self.assertLessEqual(told, three)
                    # What has no more rules has been looked at.
                    self.assertTrue(told == three or told[2] > 4)

    def test_price_then_letters_then_rules(self):
        grammar = (("s", "t"), 0, ((0, ("a",)), (0, ("b", "b")), (0, (1,)), (1, ("c",))))
        self.same(least_three(grammar, (1, ((0, "a", 0, 2), (0, "b", 0, 0), (0, "c", 0, 3))), 0, 0, 0), (0, 2, 1))
        self.same(least_three(grammar, (1, ((0, "a", 0, 2), (0, "b", 0, 1), (0, "c", 0, 3))), 0, 0, 0), (2, 1, 1))
        self.same(least_three(grammar, (1, ((0, "a", 0, 2), (0, "b", 0, 1), (0, "c", 0, 1))), 0, 0, 0), (1, 1, 2))
        self.same(least_three(grammar, (1, ((0, "a", 0, 2), (0, "b", 0, 1), (0, "c", 0, 2))), 0, 0, 0), (2, 1, 1))

    def test_edges(self):
        self.same(least_three(NEST, ROAD, 0, 0, 1), (1, 2, 2))
        self.same(least_three(NEST, ROAD, 0, 0, 0), (0, 0, 1))
        self.same(least_three(NEST, ROAD, 1, 0, 0), None)
        self.same(least_three((("s",), 0, ()), ROAD, 0, 0, 0), None)
        self.same(least_three(NEST, (1, ()), 0, 0, 0), (0, 0, 1))

    def test_useless_names_count(self):
        self.same(least_three(ODD_ONES, ROAD, 0, 3, 0), (0, 0, 1))
        self.same(least_three(ODD_ONES, ROAD, 0, 2, 0), None)

    def test_two_rings(self):
        # Around a ring of 19 by a, then around one of 20 by b, as often: a way into the ring at 7 needs 7 modulo 20.
        arcs = [(k, "a", (k + 1) % 19, 1) for k in range(19)] + [(0, "b", 20, 1)]
        arcs += [(19 + k, "b", 19 + (k + 1) % 20, 1) for k in range(20)]
        machine = (39, tuple(sorted(arcs)))
        times = [k for k in range(19, 19 * 20 + 1, 19) if k % 20 == 7][0]
        self.same(least_three(NEST, machine, 0, 0, 26), (2 * times, 2 * times, times + 1))

    def test_texts_read(self):
        for text in texts_over("ab", 3):
            grammar = (("s",), 0, ((0, tuple(text)),))
            told = least_three(grammar, ROAD, 0, 0, 1)
            price = text_price(ROAD, 0, 1, text)
            self.same(told, None if price is None else (price, len(text), 1))

    def test_refuses(self):
        self.refuses_all("NotUsable('here')", least_three, (NEST, ROAD), NO_STATES, (0, 0))
        self.refuses_all("NotUsable('name')", least_three, (NEST, ROAD, 0), NO_STATES + (1, "s"), (0,))
        self.refuses_all("NotUsable('there')", least_three, (NEST, ROAD, 0, 0), NO_STATES)
        self.refuses("NotUsable('here')", least_three, NEST, ROAD, 2, 1, 2)
        self.refuses("NotUsable('name')", least_three, NEST, ROAD, 1, 1, 2)
