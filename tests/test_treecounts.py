"""[33], [35]: how many trees a text has."""

import random
from math import comb

from stillends.members import in_grammar
from stillends.treecounts import count_trees
from stillends.treetexts import tree_text
from tests.definitions import looped_by_sets, some_unlooped, trees_of
from tests.helpers import BAD_TEXTS, NEST, PAIRS, PART, Case, texts_over
from tests.test_trees import ODD_ONES, RING
from tests.test_usefulness import some_grammar


def catalan(n):
    return comb(2 * n, n) // (n + 1)


class CountTreesTest(Case):
    def test_by_trees_one_by_one(self):
        # Bodies without the empty one, and none of one name alone: then trees have few rules for their letters.
        chance = random.Random(33)
        many = 0
        for _ in range(150):
            names, start, rules = some_grammar(chance)
            rules = [rule for rule in rules if len(rule[1]) > 1 or rule[1] and isinstance(rule[1][0], str)]
            grammar = (names, start, tuple(rules))
            found = {}
            for tree in trees_of(grammar, start, 7):
                text = tree_text(grammar, tree)
                found[text] = found.get(text, 0) + 1
            for text in texts_over("ab", 4):
                self.same(count_trees(grammar, text), found.get(text, 0))
                many += found.get(text, 0)
        self.assertGreater(many, 100)

    def test_empty_bodies(self):
        self.same([count_trees(PAIRS, text) for text in ("", "a", "aa", "aaa", "b")], [1, 2, 1, 0, 0])
        grammar = (("s", "x", "y"), 0, ((0, (1, 2, 1)), (1, ()), (1, (2,)), (2, ()), (2, ("a",))))
        # Two of x for the empty text, one for a; y has one of each.
        self.same([count_trees(grammar, "a" * k) for k in range(5)], [4, 8, 5, 1, 0])
        names = tuple(f"n{k}" for k in range(60))
        rules = tuple(rule for k in range(60) for rule in ((k, ()), (k, (k + 1,)))[: 2 if k < 59 else 1])
        self.same(count_trees((names, 0, rules), ""), 60)

    def test_one_more_name_that_is_counted(self):
        chance = random.Random(331)
        for _ in range(150):
            names, start, rules = some_unlooped(chance)
            grammar = (names + ("z",), len(names), rules + ((len(names), (start,)), (len(names), ("c", start, "c"))))
            for text in texts_over("ab", 3):
                own = count_trees((names, start, rules), text)
                self.same(own > 0, in_grammar((names, start, rules), text))
                self.same(count_trees(grammar, text), own)
                self.same(count_trees(grammar, "c" + text + "c"), own)

    def test_edges(self):
        self.same(count_trees(NEST, ""), 1)
        self.same(count_trees(NEST, "a"), 0)
        self.same(count_trees(PART, "bcc"), 1)
        self.same(count_trees((("s",), 0, ()), ""), 0)
        self.same(count_trees(ODD_ONES, "cd"), 0)
        self.same(count_trees(ODD_ONES, "aa"), 1)

    def test_sixty_figures(self):
        both = (("s",), 0, ((0, ("a",)), (0, (0, 0))))
        for letters in (1, 2, 5, 30, 103):
            self.same(count_trees(both, "a" * letters), catalan(letters - 1))
        self.assertEqual(len(str(catalan(102))), 59)
        twice = (("s", "x"), 0, ((0, (1, 0)), (0, ()), (1, ("a",)), (1, ("b", "c")), (1, ("b", 1))))
        self.same(count_trees(twice, "bba" * 40), 1)
        choice = (("s", "x", "y"), 0, ((0, (1, 0)), (0, ()), (1, ("a",)), (1, (2,)), (2, ("a",))))
        self.assertEqual(len(str(2**199)), 60)
        self.same(count_trees(choice, "a" * 199), 2**199)

    def test_long_texts(self):
        self.same(count_trees(NEST, "a" * 600 + "b" * 600), 1)
        splits = (("s", "x", "y"), 0, ((0, (1, 2)), (1, ()), (1, ("a", 1)), (2, ()), (2, ("a", 2))))
        self.same(count_trees(splits, "a" * 300), 301)
        left = (("s", "x", "y"), 0, ((0, (1, 2)), (1, ()), (1, (1, "a")), (2, ()), (2, (2, "a"))))
        self.same(count_trees(left, "a" * 300), 301)
        ends = (("s", "x"), 0, ((0, ("a", 0)), (0, (1,)), (1, ("b",)), (1, ("b", 1))))
        self.same(count_trees(ends, "a" * 500 + "b" * 700), 1)

    def test_body_of_twelve(self):
        grammar = (("s", "x"), 0, ((0, (1,) * 12), (1, ()), (1, ("a",))))
        self.same([count_trees(grammar, "a" * k) for k in range(14)], [comb(12, k) for k in range(13)] + [0])

    def test_looped(self):
        self.refuses("Looped(0)", count_trees, RING, "b")
        self.refuses("Looped(0)", count_trees, RING, "")
        grammar = (("s", "t"), 0, ((0, (1, "a")), (0, ()), (1, (1,)), (1, ("a",))))
        self.refuses("Looped(1)", count_trees, grammar, "")
        chance = random.Random(332)
        for _ in range(100):
            grammar = some_grammar(chance)
            looped = looped_by_sets(grammar)
            if looped:
                self.refuses(f"Looped({looped[0]})", count_trees, grammar, "ab")

    def test_refuses(self):
        self.refuses_all("NotUsable('text')", count_trees, (NEST,), BAD_TEXTS)
        self.refuses_all("NotUsable('text')", count_trees, (RING,), BAD_TEXTS)
