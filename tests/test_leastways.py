"""[39], [45]: least ways with trees, and the prices of told ways."""

import random

from stillends.leastways import least_way, way_price
from stillends.meets import least_three
from stillends.trees import lets_tree
from stillends.treetexts import tree_text
from tests.definitions import all_items, some_machine, ways_of, ways_with_trees
from tests.helpers import DEEP, NEST, ODD, PAIRS, Case
from tests.test_machines import NO_STATES, ROAD
from tests.test_meets import big_machine, some_pairs
from tests.test_trees import ODD_ONES, RING
from tests.test_usefulness import some_grammar


class LeastWayTest(Case):
    def check(self, grammar, machine, item):
        """The way has the least three of the item; the three, None if there is no way."""
        told = least_way(grammar, machine, *item)
        three = least_three(grammar, machine, *item)
        if three is None:
            self.same(told, None)
            return None
        tree, states = told
        text = tree_text(grammar, tree)
        self.same(lets_tree(grammar, tree), item[1])
        self.same((states[0], states[-1], len(states)), (item[0], item[2], len(text) + 1))
        costs = {arc[:3]: arc[3] for arc in machine[1]}
        price = sum(costs[(states[k], letter, states[k + 1])] for k, letter in enumerate(text))
        self.same((price, len(text), len(tree)), three)
        self.same(way_price(grammar, machine, *item, told), price)
        return three

    def test_all_items(self):
        for grammar, machine in some_pairs(39, 200):
            for item in all_items(grammar, machine):
                self.check(grammar, machine, item)

    def test_edges(self):
        self.same(least_way(NEST, ROAD, 0, 0, 0), ((0,), (0,)))
        self.same(least_way(NEST, ROAD, 1, 0, 0), None)
        self.same(least_way((("s",), 0, ()), (1, ()), 0, 0, 0), None)
        self.same(least_way(ODD_ONES, ROAD, 1, 3, 1), ((5,), (1,)))
        self.same(least_way(RING, (1, ((0, "a", 0, 0),)), 0, 0, 0), ((0,), (0,)))

    def test_prices_of_zero(self):
        grammar = (("s",), 0, ((0, ("a",)), (0, (0, 0))))
        machine = (3, ((0, "a", 1, 0), (1, "a", 2, 0), (2, "a", 0, 0)))
        self.same(self.check(grammar, machine, (0, 0, 0)), (0, 3, 5))

    def test_big_machines(self):
        for machine in (big_machine(3, "ab", 1), big_machine(4, "abcd", 1000)):
            for item in ((0, 0, 1), (17, 0, 399), (5, 0, 5)):
                self.check(NEST, machine, item)

    def test_four_thousand_rules_and_one_more(self):
        # A chain that takes just 999 letters and one more.
        arcs = [(k, "a", k + 1, 1) for k in range(999)] + [(999, "b", 1000, 0)]
        for more in range(5):
            # Each a stands beside three empty names.
            grammar = (("s", "t", "x"), 0, ((0, (2, 2, 2, "a", 0)), (0, (1, "b")), (1, (2,) * more), (2, ())))
            if more <= 2:
                tree, states = least_way(grammar, (1001, tuple(arcs)), 0, 0, 1000)
                self.same(tree, (0, 3, 3, 3) * 999 + (1, 2) + (3,) * more)
                self.same(states, tuple(range(1001)))
            else:
                self.refuses("TooMuch('tree')", least_way, grammar, (1001, tuple(arcs)), 0, 0, 1000)

    def test_twelve_hundred_letters_and_one_more(self):
        # Only thrice around a ring of 400 states, or thrice and one letter more.
        ring = (400, tuple((k, "a", (k + 1) % 400, 0) for k in range(400)))
        rules = ((0, (1,) * 3), (0, (1, 1, 1, "a")), (1, (2,) * 10), (2, (3,) * 10), (3, ("a",) * 4))
        grammar = (("s", "t", "u", "v"), 0, rules)
        self.same(self.check(grammar, ring, (0, 0, 0)), (0, 1200, 334))
        self.same(least_three(grammar, ring, 0, 0, 1), (0, 1201, 334))
        self.refuses("TooMuch('text')", least_way, grammar, ring, 0, 0, 1)

    def test_text_comes_ahead_of_tree(self):
        names = tuple(f"n{k}" for k in range(60))
        rules = tuple((k, (k + 1,) * 12 if k < 59 else ("a",) * 12) for k in range(60))
        self.refuses("TooMuch('text')", least_way, (names, 0, rules), (1, ((0, "a", 0, 0),)), 0, 0, 0)
        empty = tuple((k, (k + 1,) * 12 if k < 59 else ()) for k in range(60))
        self.refuses("TooMuch('tree')", least_way, (names, 0, empty), (1, ()), 0, 0, 0)

    def test_refuses(self):
        self.refuses_all("NotUsable('here')", least_way, (NEST, ROAD), NO_STATES, (0, 0))
        self.refuses_all("NotUsable('name')", least_way, (NEST, ROAD, 0), NO_STATES + (1, "s"), (0,))
        self.refuses_all("NotUsable('there')", least_way, (NEST, ROAD, 0, 0), NO_STATES)
        self.refuses("NotUsable('here')", least_way, NEST, ROAD, True, True, True)


class WayPriceTest(Case):
    def test_all_ways(self):
        chance = random.Random(391)
        for _ in range(25):
            grammar, machine = some_grammar(chance), some_machine(chance, 3)
            for name in range(len(grammar[0])):
                for here, there, three, tree, states in ways_with_trees(grammar, machine, name, 3):
                    self.same(way_price(grammar, machine, here, name, there, (tree, states)), three[0])
                    for item in all_items(grammar, machine):
                        if item != (here, name, there):
                            self.same(way_price(grammar, machine, *item, (tree, states)), None)

    def test_not_only_the_least(self):
        self.same(way_price(NEST, ROAD, 0, 0, 1, ((1, 1, 0), (0, 0, 0, 1, 1))), 3)
        self.same(way_price(NEST, ROAD, 0, 0, 1, ((1, 0), (0, 0, 1))), 1)

    def test_no_ways(self):
        good = ((1, 0), (0, 0, 1))
        wrong = (
            (1, 0), ((1, 0),), good + (0,), list(good), ([1, 0], (0, 0, 1)), ((1, 0), [0, 0, 1]), ((0,), (0, 0, 1)),
            ((1, 0), (0, 0)), ((1, 0), (0, 0, 0, 1)), ((1, 0), ()), ((1,), (0, 0, 1)), ((), (0, 0, 1)), ((1, 0), (0, 1, 1)),
            ((1, 0), (0, 0, 2)), ((1, 0), (False, 0, 1)), ((1, 0), (0, 0, True)), ((True, 0), (0, 0, 1)), ((1, 0), None),
            ((1, 0), "001"), ((1, 0), (0, "0", 1)), ((1, 0), (0, -1, 1)), (None, None), ((1, 0, 0), (0, 0, 1)), ((1, 0), 0),
            ((1, 0), (1, 0, 1)), ((1, 0), (0, 0, 10**59)), ((0,), ()), ((0,), (0,)), ((0,), (1,)), [], "", DEEP,
        )
        for thing in ODD + wrong:
            self.same(way_price(NEST, ROAD, 0, 0, 1, thing), None)
        self.same(way_price(NEST, ROAD, 0, 0, 0, ((0,), (0,))), 0)

    def test_trees_of_other_names(self):
        machine = (1, ((0, "a", 0, 4),))
        self.same(way_price(PAIRS, machine, 0, 1, 0, ((2,), (0, 0))), 4)
        self.same(way_price(PAIRS, machine, 0, 0, 0, ((2,), (0, 0))), None)
        self.same(way_price(PAIRS, machine, 0, 0, 0, ((0, 1, 2), (0, 0))), 4)

    def test_of_any_length(self):
        tree = (1,) * 3000 + (0,)
        self.same(way_price(NEST, (1, ((0, "a", 0, 1), (0, "b", 0, 2))), 0, 0, 0, (tree, (0,) * 6001)), 9000)
        self.same(way_price(NEST, (1, ((0, "a", 0, 1), (0, "b", 0, 2))), 0, 0, 0, (tree, (0,) * 6000)), None)
        self.same(len(ways_of(ROAD, 0, "aabb")), 2)

    def test_refuses(self):
        for thing in (None, ((1, 0), (0, 0, 1))):
            self.refuses_all("NotUsable('here')", way_price, (NEST, ROAD), NO_STATES, (0, 0, thing))
            self.refuses_all("NotUsable('name')", way_price, (NEST, ROAD, 0), NO_STATES + (1,), (0, thing))
            self.refuses_all("NotUsable('there')", way_price, (NEST, ROAD, 0, 0), NO_STATES, (thing,))
