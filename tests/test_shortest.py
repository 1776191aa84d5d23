"""[43]: shortest texts, of a grammar and of those that a machine takes."""

import random

from stillends.machines import text_price
from stillends.meets import least_three
from stillends.shortest import shortest_taken, shortest_text
from stillends.trees import is_of_grammar
from stillends.treetexts import tree_text
from tests.helpers import DEEP, NEST, ODD, PAIRS, PART, Case
from tests.test_machines import NO_STATES, ROAD
from tests.test_meets import big_machine, some_pairs
from tests.test_trees import ODD_ONES, RING
from tests.test_usefulness import sizes_by_growing, some_grammar


class ShortestTextTest(Case):
    def test_by_growing(self):
        chance = random.Random(43)
        for _ in range(400):
            grammar = some_grammar(chance)
            told = shortest_text(grammar)
            size = sizes_by_growing(grammar).get(grammar[1])
            if size is None:
                self.same(told, None)
            else:
                text, tree = told
                self.same(is_of_grammar(grammar, tree), True)
                self.same(tree_text(grammar, tree), text)
                self.same((len(text), len(tree)), size)

    def test_edges(self):
        self.same(shortest_text(NEST), ("", (0,)))
        self.same(shortest_text(PART), ("b", (0, 2)))
        self.same(shortest_text(PAIRS), ("", (0, 1, 1)))
        self.same(shortest_text(RING), ("", (0,)))
        self.same(shortest_text((("s",), 0, ())), None)
        self.same(shortest_text((("s", "t"), 0, ((1, ()),))), None)

    def test_twelve_hundred_letters_and_one_more(self):
        rules = ((0, (1,) * 10), (1, (2,) * 10), (2, ("a",) * 12))
        text, tree = shortest_text((("s", "t", "u"), 0, rules))
        self.same((text, len(tree)), ("a" * 1200, 111))
        more = ((0, (1,) * 10 + ("b",)),) + rules[1:]
        self.refuses("TooMuch('text')", shortest_text, (("s", "t", "u"), 0, more))

    def test_four_thousand_rules_and_one_more(self):
        names = ("s", "t", "u", "v", "w", "x", "y")
        for more in range(3, 8):
            # t has 1,464 rules, x 1,066 and those of y behind its own one.
            rules = ((0, (1, 1, 5)), (1, (2,) * 11), (2, (3,) * 11), (3, (4,) * 11), (4, ()), (5, (2,) * 8 + (6,)))
            grammar = (names, 0, rules + ((6, (4,) * more),))
            if more <= 5:
                self.same(shortest_text(grammar)[0], "")
                self.same(len(shortest_text(grammar)[1]), 3995 + more)
                self.same(shortest_taken(grammar, (1, ()), 0, (0,)), shortest_text(grammar))
            else:
                self.refuses("TooMuch('tree')", shortest_text, grammar)
                self.refuses("TooMuch('tree')", shortest_taken, grammar, (1, ()), 0, (0,))

    def test_text_comes_ahead_of_tree(self):
        names = tuple(f"n{k}" for k in range(60))
        rules = tuple((k, (k + 1,) * 12 if k < 59 else ("a",) * 12) for k in range(60))
        self.refuses("TooMuch('text')", shortest_text, (names, 0, rules))
        self.refuses("TooMuch('tree')", shortest_text, (names, 0, rules[:59] + ((59, ()),)))
        self.refuses("TooMuch('tree')", shortest_taken, (names, 0, rules[:59] + ((59, ()),)), (1, ()), 0, (0,))
        self.refuses("TooMuch('text')", shortest_taken, (names, 0, rules), (1, ((0, "a", 0, 1),)), 0, (0,))


class ShortestTakenTest(Case):
    def test_by_least_threes(self):
        chance = random.Random(431)
        for grammar, machine in some_pairs(432, 200):
            state = chance.randrange(machine[0])
            finals = tuple(chance.randrange(machine[0]) for _ in range(chance.randint(0, 4)))
            threes = [least_three(grammar, machine, state, grammar[1], final) for final in finals]
            threes = [three for three in threes if three is not None]
            told = shortest_taken(grammar, machine, state, finals)
            if not threes:
                self.same(told, None)
                continue
            text, tree = told
            self.same(is_of_grammar(grammar, tree), True)
            self.same(tree_text(grammar, tree), text)
            costs = [text_price(machine, state, final, text) for final in finals]
            self.same((min(cost for cost in costs if cost is not None), len(text), len(tree)), min(threes))

    def test_edges(self):
        self.same(shortest_taken(NEST, ROAD, 0, (1,)), ("ab", (1, 0)))
        self.same(shortest_taken(NEST, ROAD, 0, (0,)), ("", (0,)))
        self.same(shortest_taken(NEST, ROAD, 0, (1, 0, 1)), ("", (0,)))
        self.same(shortest_taken(NEST, ROAD, 1, (0, 0)), None)
        self.same(shortest_taken(NEST, ROAD, 0, ()), None)
        self.same(shortest_taken((("s",), 0, ()), (1, ()), 0, (0,)), None)

    def test_of_the_start_alone(self):
        self.same(shortest_taken(ODD_ONES, (2, ((0, "c", 1, 0), (1, "d", 1, 0))), 0, (1,)), None)
        self.same(shortest_taken((("t", "s"), 1, ((0, ("a",)), (1, ("a", 0)))), ROAD, 0, (0,)), ("aa", (1, 0)))

    def test_twelve_hundred_letters_and_one_more(self):
        ring = (400, tuple((k, "a", (k + 1) % 400, 0) for k in range(400)))
        rules = ((0, (1,) * 3), (0, (1, 1, 1, "a")), (1, (2,) * 10), (2, (3,) * 10), (3, ("a",) * 4))
        grammar = (("s", "t", "u", "v"), 0, rules)
        self.same(shortest_taken(grammar, ring, 7, (7, 8))[0], "a" * 1200)
        self.refuses("TooMuch('text')", shortest_taken, grammar, ring, 7, (8,))

    def test_big_machines(self):
        machine = big_machine(6, "abcd", 1000)
        text, tree = shortest_taken(NEST, machine, 3, tuple(range(200, 400)))
        self.same((is_of_grammar(NEST, tree), tree_text(NEST, tree)), (True, text))
        costs = [text_price(machine, 3, there, text) for there in range(200, 400)]
        three = (min(cost for cost in costs if cost is not None), len(text), len(tree))
        for there in (200, 300, 399):
            self.assertLessEqual(three, least_three(NEST, machine, 3, 0, there))

    def test_refuses(self):
        self.refuses_all("NotUsable('state')", shortest_taken, (NEST, ROAD), NO_STATES, ((1,),))
        self.refuses_all("NotUsable('state')", shortest_taken, (NEST, ROAD), NO_STATES, (None,))
        wrong = ODD + (0, 1, "", "0", (2,), (0, 2), (0, True), (-1,), ("0",), (0, None), [0], (10**59,), ((0,),), DEEP)
        self.refuses_all("NotUsable('finals')", shortest_taken, (NEST, ROAD, 0), wrong)
