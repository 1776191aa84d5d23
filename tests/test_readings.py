"""[64], [67]: the only tree of a text."""

import random

from stillends.readings import read_tree
from stillends.treecounts import count_trees
from stillends.treenumbers import nth_tree
from tests.chances import DOUBLE, DYCK, FORK, LEFT, LISTS, NO_TEXTS, REGULAR, one_way_grammar
from tests.helpers import BAD_TEXTS, NEST, Case, texts_over
from tests.test_trees import ODD_ONES


class ReadTreeTest(Case):
    def test_by_all_trees(self):
        chance = random.Random(64)
        read = 0
        for grammar in [one_way_grammar(chance) for _ in range(90)] + [NEST, FORK, DYCK, NO_TEXTS, ODD_ONES]:
            for text in texts_over("ab", 5):
                expected = nth_tree(grammar, text, 0) if count_trees(grammar, text) else None
                self.same(read_tree(grammar, text), expected)
                read += expected is not None
        self.assertGreater(read, 200)

    def test_edges(self):
        self.same((read_tree(NEST, "aabb"), read_tree(NEST, "aab"), read_tree(NEST, "")), ((1, 1, 0), None, (0,)))
        self.same((read_tree(NO_TEXTS, ""), read_tree(NO_TEXTS, "a")), (None, None))
        self.same(read_tree(LISTS, "badacdac"), None)
        self.same(read_tree(LISTS, "badbcdac"), (1, 3, 0, 5, 1, 2, 5, 0, 4))
        self.same(read_tree((("s", "t"), 0, ((0, (1, 1)), (1, ()))), ""), (0, 1, 1))

    def test_four_thousand_rules_and_one_more(self):
        def chain(times, below):
            return (("s", "t", "u"), 0, ((0, ()), (0, ("a",) + (1,) * times + (0,)), (1, (2,) * below), (2, ())))

        self.same(len(read_tree(chain(6, 6), "a" * 93)), 4000)
        self.refuses("TooMuch('tree')", read_tree, chain(3, 12), "a" * 100)
        # What is no text has no tree, however many rules are read.
        self.same(read_tree(chain(3, 12), "a" * 100 + "b"), None)
        names = tuple(f"n{k}" for k in range(60))
        rules = ((0, ("a", 1, "b")),) + tuple((k, (k + 1,) * 12 if k < 59 else ()) for k in range(1, 60))
        self.refuses("TooMuch('tree')", read_tree, (names, 0, rules), "ab")
        self.same(read_tree((names, 0, rules), "abb"), None)

    def test_long_texts(self):
        self.same(read_tree(NEST, "a" * 600 + "b" * 600), (1,) * 600 + (0,))
        self.same(read_tree(REGULAR, "ab" * 600), (1, 2) * 600 + (0,))
        self.same(read_tree(DYCK, "ab" * 600), (1, 0) * 600 + (0,))

    def test_refuses(self):
        self.refuses_all("NotUsable('text')", read_tree, (NEST,), BAD_TEXTS)
        self.refuses_all("NotUsable('text')", read_tree, (LEFT,), BAD_TEXTS)
        self.refuses("NotOneWay(0, 0, 2, 'a')", read_tree, DOUBLE, "a")
