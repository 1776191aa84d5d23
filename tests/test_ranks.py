"""[61], [67]: ranks and empty sizes."""

import random

from stillends.ranks import empty_sizes, left_ranks
from stillends.treecounts import count_trees
from stillends.treenumbers import nth_tree
from tests.chances import DOUBLE, FORK, LISTS, NO_TEXTS, one_way_grammar
from tests.helpers import NEST, PAIRS, Case
from tests.plainly import Stands
from tests.test_trees import ODD_ONES


def leads(grammar):
    """All pairs of a useful name and one to which it leads on."""
    stands = Stands(grammar)
    found = set()
    for rule in stands.rules:
        head, body = grammar[2][rule]
        for k, symbol in enumerate(body):
            if isinstance(symbol, int) and stands.may_end(body[:k]):
                found.add((head, symbol))
    return found


class LeftRanksTest(Case):
    def test_by_chains(self):
        chance = random.Random(61)
        met = set()
        for _ in range(300):
            grammar = one_way_grammar(chance)
            pairs = leads(grammar)
            useful = Stands(grammar).names
            chains = [(name,) for name in useful]
            ranks = dict.fromkeys(useful, 0)
            while chains:
                chains = [chain + (other,) for chain in chains for name, other in pairs if name == chain[-1]]
                for chain in chains:
                    ranks[chain[0]] = max(ranks[chain[0]], len(chain) - 1)
            self.same(left_ranks(grammar), tuple(ranks.get(name) for name in range(len(grammar[0]))))
            for name, other in pairs:
                self.assertGreater(ranks[name], ranks[other])
            met |= set(ranks.values())
        self.assertTrue({0, 1, 2} <= met)

    def test_edges(self):
        self.same(left_ranks(FORK), (1, 0, None))
        self.same(left_ranks(NO_TEXTS), (None,))
        self.same(left_ranks(ODD_ONES), (0, None, None, None))
        self.same(left_ranks(LISTS), (0, 1, 0))
        # Ahead of u stands t, which can be empty; ahead of v stands a letter.
        self.same(left_ranks((("s", "t", "u", "v"), 0, ((0, (1, 2, "x", 3)), (1, ()), (2, (3,)), (3, ("y",))))), (2, 0, 1, 0))
        names = tuple(f"n{k}" for k in range(60))
        rules = tuple((k, (k + 1,)) for k in range(59)) + ((59, ("a",)),)
        self.same(left_ranks((names, 0, rules)), tuple(range(59, -1, -1)))

    def test_not_one_way(self):
        self.refuses("NotOneWay(0, 0, 1, 'a')", left_ranks, (("s",), 0, ((0, ()), (0, (0, "a")))))
        self.refuses("NotOneWay(0, 0, 1, '')", left_ranks, (("s", "t"), 0, ((0, ()), (0, (1,)), (1, ()))))
        self.refuses("NotOneWay(1, 1, 2, 'a')", left_ranks, PAIRS)


class EmptySizesTest(Case):
    def test_by_the_empty_tree(self):
        chance = random.Random(611)
        many = 0
        for _ in range(300):
            grammar = one_way_grammar(chance)
            useful = Stands(grammar).names
            expected = []
            for name in range(len(grammar[0])):
                own = (grammar[0], name, grammar[2])
                has = name in useful and count_trees(own, "") == 1
                expected.append(len(nth_tree(own, "", 0)) if has else None)
            self.same(empty_sizes(grammar), tuple(expected))
            many += any(size is not None and size > 1 for size in expected)
        self.assertGreater(many, 10)

    def test_edges(self):
        self.same(empty_sizes(FORK), (None, 1, None))
        self.same(empty_sizes((("s", "t"), 0, ((0, (1, 1)), (1, ())))), (3, 1))
        self.same(empty_sizes(NEST), (1,))
        self.same(empty_sizes(NO_TEXTS), (None,))
        self.same(empty_sizes((("s", "t"), 0, ((0, ("a",)), (1, ())))), (None, None))

    def test_numbers_of_any_size(self):
        names = tuple(f"n{k}" for k in range(60))
        rules = tuple((k, (k + 1,) * 12 if k < 59 else ()) for k in range(60))
        expected = [1]
        for _ in range(59):
            expected.append(1 + 12 * expected[-1])
        self.same(empty_sizes((names, 0, rules)), tuple(expected[::-1]))

    def test_not_one_way(self):
        self.refuses("NotOneWay(0, 0, 2, 'a')", empty_sizes, DOUBLE)
