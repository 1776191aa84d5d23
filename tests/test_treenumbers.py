"""[34], [35]: trees of a text by number."""

import random

from stillends.treecounts import count_trees
from stillends.treenumbers import nth_tree, rank_tree
from stillends.trees import is_of_grammar
from stillends.treetexts import tree_text
from tests.definitions import some_unlooped, trees_of
from tests.helpers import BAD_TEXTS, DEEP, NEST, ODD, PAIRS, PART, Case, texts_over
from tests.test_trees import NO_TREES, ODD_ONES, RING

CATALAN = (("s",), 0, ((0, ("a",)), (0, (0, 0))))


class NumbersTest(Case):
    def check_all(self, grammar, text):
        """nth_tree gives all trees of the text, ascending, and rank_tree leads back."""
        many = count_trees(grammar, text)
        trees = [nth_tree(grammar, text, k) for k in range(many)]
        self.same(trees, sorted(set(trees)))
        for k, tree in enumerate(trees):
            self.same(is_of_grammar(grammar, tree), True)
            self.same(tree_text(grammar, tree), text)
            self.same(rank_tree(grammar, tree), k)
        self.refuses("NotUsable('k')", nth_tree, grammar, text, many)
        return trees

    def test_by_trees_one_by_one(self):
        chance = random.Random(34)
        for _ in range(150):
            grammar = some_unlooped(chance)
            found = trees_of(grammar, grammar[1], 7)
            for text in texts_over("ab", 3):
                if count_trees(grammar, text) <= 20:
                    trees = self.check_all(grammar, text)
                    expected = sorted(tree for tree in found if tree_text(grammar, tree) == text)
                    self.same([tree for tree in trees if len(tree) <= 7], expected)

    def test_longer_texts(self):
        self.same(len(self.check_all(CATALAN, "aaaaa")), 14)
        grammar = (("s", "x", "y"), 0, ((0, (1, 2, 1)), (1, ()), (1, (2,)), (2, ()), (2, ("a",))))
        self.same([len(self.check_all(grammar, "a" * k)) for k in range(4)], [4, 8, 5, 1])
        self.same(self.check_all(PAIRS, "a"), [(0, 1, 2), (0, 2, 1)])

    def test_the_sequence_is_that_of_python(self):
        # The longer first part stands ahead, as its rule is less.
        grammar = (("s", "x"), 0, ((0, (1, 1)), (1, ("a", "a")), (1, ("a",)), (1, ("a", "a", "a"))))
        self.same(self.check_all(grammar, "aaaa"), [(0, 1, 1), (0, 2, 3), (0, 3, 2)])

    def test_big_numbers(self):
        text = "a" * 103
        many = count_trees(CATALAN, text)
        self.assertEqual(len(str(many)), 59)
        for k in (0, 1, many // 3, many // 2, many - 2, many - 1, 7**65 % many):
            tree = nth_tree(CATALAN, text, k)
            self.same(len(tree), 205)
            self.same(rank_tree(CATALAN, tree), k)
        self.same(nth_tree(CATALAN, text, 0), (1, 0) * 102 + (0,))
        self.refuses("NotUsable('k')", nth_tree, CATALAN, text, many)
        choice = (("s", "x", "y"), 0, ((0, (1, 0)), (0, ()), (1, ("a",)), (1, (2,)), (2, ("a",))))
        tree = nth_tree(choice, "a" * 199, 2**199 - 2)
        self.same(tree, (0, 3, 4) * 198 + (0, 2, 1))
        self.same(rank_tree(choice, tree), 2**199 - 2)

    def test_first_and_last(self):
        # Rule 0 is the letter: the first tree goes on to the right, the last one to the left.
        self.same(nth_tree(CATALAN, "aaa", 0), (1, 0, 1, 0, 0))
        self.same(nth_tree(CATALAN, "aaa", 1), (1, 1, 0, 0, 0))

    def test_long_texts(self):
        self.same(nth_tree(NEST, "a" * 600 + "b" * 600, 0), (1,) * 600 + (0,))
        self.same(rank_tree(NEST, (1,) * 600 + (0,)), 0)
        splits = (("s", "x", "y"), 0, ((0, (1, 2)), (1, ()), (1, ("a", 1)), (2, ()), (2, ("a", 2))))
        for k in (0, 1, 150, 300):
            tree = (0,) + (2,) * k + (1,) + (4,) * (300 - k) + (3,)
            self.same(nth_tree(splits, "a" * 300, k), tree)
            self.same(rank_tree(splits, tree), k)

    def test_four_thousand_rules_and_one_more(self):
        for more in range(6):
            # Four rules for each letter, and two and more behind them.
            grammar = (("s", "t", "x"), 0, ((0, (1, 1, 1, "a", 0)), (0, (2,)), (1, ()), (2, (1,) * more)))
            if more <= 2:
                tree = nth_tree(grammar, "a" * 999, 0)
                self.same(len(tree), 3998 + more)
                self.same(tree, (0, 2, 2, 2) * 999 + (1, 3) + (2,) * more)
            else:
                self.refuses("TooMuch('tree')", nth_tree, grammar, "a" * 999, 0)
                self.refuses("NotUsable('k')", nth_tree, grammar, "a" * 999, 1)
                self.same(rank_tree(grammar, (0, 2, 2, 2) * 999 + (1, 3) + (2,) * more), 0)

    def test_trees_without_end_in_sight(self):
        names = tuple(f"n{k}" for k in range(60))
        rules = tuple((k, (k + 1,) * 12 if k < 59 else ()) for k in range(60))
        self.same(count_trees((names, 0, rules), ""), 1)
        self.refuses("TooMuch('tree')", nth_tree, (names, 0, rules), "", 0)
        self.refuses("NotUsable('k')", nth_tree, (names, 0, rules), "", 1)
        # With a letter in one of the last places the numbers have more than sixty figures, but not without.
        self.same(count_trees((names, 0, rules + ((59, ("a",)),)), ""), 1)

    def test_long_trees_may_be_ranked(self):
        grammar = (("s", "t"), 0, ((0, ()), (0, ("a", 0)), (0, (1, "b", 0)), (1, ())))
        tree = (1, 2, 3) * 400 + (0,)
        self.same(rank_tree(grammar, tree), 0)
        bodies = (("s", "t", "u", "v"), 0, ((0, (1,) * 12), (1, (2,) * 12), (2, (3,) * 12), (3, ()), (3, ("a",))))
        u = (2,) + (3,) * 12
        t = (1,) + u * 12
        tree = (0,) + t * 11 + (1,) + u * 11 + (2,) + (3,) * 11 + (4,)
        self.same(len(tree), 1 + 12 + 144 + 1728)
        self.same(rank_tree(bodies, tree), 0)
        self.same(nth_tree(bodies, "a", 1727), (0, 1, 2, 4) + (3,) * 11 + u * 11 + t * 11)

    def test_nth_tree_refuses(self):
        self.refuses_all("NotUsable('text')", nth_tree, (NEST,), BAD_TEXTS, (0,))
        self.refuses_all("NotUsable('text')", nth_tree, (RING,), BAD_TEXTS, (None,))
        for k in ODD + ("0", (), (0,), DEEP):
            self.refuses("NotUsable('k')", nth_tree, NEST, "ab", k)
            # A k that is no number comes ahead of loops.
            self.refuses("NotUsable('k')", nth_tree, RING, "ab", k)
        for k in (1, 2, 10**59):
            self.refuses("NotUsable('k')", nth_tree, NEST, "ab", k)
            self.refuses("Looped(0)", nth_tree, RING, "b", k)
        self.refuses("Looped(0)", nth_tree, RING, "a", 0)
        self.refuses("NotUsable('k')", nth_tree, NEST, "a", 0)
        self.refuses("NotUsable('k')", nth_tree, (("s",), 0, ()), "", 0)

    def test_rank_tree_refuses(self):
        self.refuses_all("NotUsable('tree')", rank_tree, (NEST,), NO_TREES + ((1,), (1, 0, 0), [0], (True, 0)))
        self.refuses_all("NotUsable('tree')", rank_tree, (RING,), NO_TREES[:20] + ((2, 0),))
        # A tree of another name is none of the grammar.
        self.refuses("NotUsable('tree')", rank_tree, PAIRS, (1,))
        self.refuses("NotUsable('tree')", rank_tree, PART, (2,))
        self.refuses("NotUsable('tree')", rank_tree, ODD_ONES, (5,))
        self.refuses("Looped(0)", rank_tree, RING, (2, 0, 0))
