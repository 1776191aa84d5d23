"""[4], [29], [30]: nullable names, least numbers of letters, looped names."""

import random

from stillends.nulls import first_looped, least_letters, nullable_names
from stillends.treetexts import tree_text
from stillends.usefulness import least_tree
from tests.definitions import looped_by_sets, texts_by_sets
from tests.helpers import NEST, PAIRS, PART, Case
from tests.test_trees import GRAMMARS, ODD_ONES, RING
from tests.test_usefulness import sizes_by_growing, some_grammar


class NullableNamesTest(Case):
    def test_by_sets(self):
        chance = random.Random(29)
        for _ in range(400):
            grammar = some_grammar(chance)
            expected = tuple(name for name, texts in enumerate(texts_by_sets(grammar, 0)) if texts)
            self.same(nullable_names(grammar), expected)
            self.same(nullable_names(grammar), tuple(k for k, few in enumerate(least_letters(grammar)) if few == 0))

    def test_edges(self):
        self.same(nullable_names(NEST), (0,))
        self.same(nullable_names(PAIRS), (0, 1))
        self.same(nullable_names(PART), ())
        self.same(nullable_names((("s",), 0, ())), ())
        # Name 3 is useless, and name 2 has no tree.
        self.same(nullable_names(ODD_ONES), (0, 3))
        self.same(nullable_names((("s", "t"), 0, ((0, (1, 1)), (1, (0,))))), ())

    def test_chain_of_names_with_bodies_of_twelve(self):
        names = tuple(f"n{k}" for k in range(60))
        rules = tuple((k, (k + 1,) * 12 if k < 59 else ()) for k in range(60))
        self.same(nullable_names((names, 0, rules)), tuple(range(60)))
        self.same(nullable_names((names, 0, rules[:59])), ())


class LeastLettersTest(Case):
    def test_by_growing(self):
        chance = random.Random(31)
        for _ in range(400):
            grammar = some_grammar(chance)
            sizes = sizes_by_growing(grammar)
            found = least_letters(grammar)
            self.same(found, tuple(sizes[k][0] if k in sizes else None for k in range(len(grammar[0]))))
            for name, few in enumerate(found):
                tree = least_tree(grammar, name)
                self.same(few, None if tree is None else len(tree_text(grammar, tree)))

    def test_by_sets(self):
        for grammar in GRAMMARS:
            texts = texts_by_sets(grammar, 4)
            self.same(least_letters(grammar), tuple(min(map(len, found)) if found else None for found in texts))

    def test_edges(self):
        self.same(least_letters(PART), (1, 1, None))
        self.same(least_letters(ODD_ONES), (0, None, None, 0))
        self.same(least_letters((("s", "t"), 1, ((0, ("a",)),))), (1, None))

    def test_numbers_of_any_size(self):
        names = tuple(f"n{k}" for k in range(60))
        rules = tuple((k, (k + 1,) * 12 if k < 59 else ("a",) * 12) for k in range(60))
        self.same(least_letters((names, 0, rules)), tuple(12 ** (60 - k) for k in range(60)))

    def test_names_that_derive_one_another_around(self):
        names = tuple(f"n{k}" for k in range(60))
        rules = []
        for k in range(60):
            rules.append((k, ((k + 1) % 60,)))
            rules.append((k, ((k + 1) % 60, "a")))
            if k == 30:
                rules.append((k, ("b",) * 7))
        grammar = (names, 0, tuple(rules))
        self.same(least_letters(grammar), (7,) * 60)
        self.same(nullable_names(grammar), ())
        self.same(first_looped(grammar), 0)


class FirstLoopedTest(Case):
    def test_by_sets(self):
        chance = random.Random(32)
        many = 0
        for _ in range(600):
            grammar = some_grammar(chance)
            looped = looped_by_sets(grammar)
            self.same(first_looped(grammar), looped[0] if looped else None)
            many += bool(looped)
        self.assertTrue(30 < many < 500)

    def test_ring_and_others(self):
        self.same(first_looped(RING), 0)
        for grammar in (NEST, PAIRS, PART, ODD_ONES, (("s",), 0, ())):
            self.same(first_looped(grammar), None)

    def test_useless_names_and_rules_do_not_count(self):
        # Name 1 leads to itself, but is useless.
        self.same(first_looped((("s", "t"), 0, ((0, ()), (1, ()), (1, (1,))))), None)
        # A rule that leads around, but needs a name without trees.
        self.same(first_looped((("s", "t"), 0, ((0, ()), (0, (0, 1))))), None)
        # No tree at all.
        self.same(first_looped((("s",), 0, ((0, (0,)),))), None)

    def test_the_least_and_not_the_start(self):
        grammar = (("s", "t", "u", "v"), 0, ((0, (3, "a")), (0, ()), (2, (3,)), (3, (2,)), (3, ("a",))))
        self.same(first_looped(grammar), 2)
        self.same(first_looped((("t", "s"), 1, ((0, (0, 0)), (0, ()), (1, (0, "b"))))), 0)

    def test_all_others_have_to_be_nullable(self):
        self.same(first_looped((("s", "t"), 0, ((0, (1, 0)), (0, ()), (1, ("a",))))), None)
        self.same(first_looped((("s", "t"), 0, ((0, (1, 0)), (0, ()), (1, ("a",)), (1, ())))), 0)
        self.same(first_looped((("s",), 0, ((0, ()), (0, ("a", 0))))), None)
        # s leads to t, but not back: t leads to s behind a letter only.
        self.same(first_looped((("s", "t"), 0, ((0, (1,)), (0, ()), (1, ("a", 0))))), None)
        self.same(first_looped((("s", "t"), 0, ((0, (1,)), (0, ()), (1, (0,))))), 0)

    def test_leading_to_others_alone_is_no_loop(self):
        names = tuple(f"n{k}" for k in range(60))
        rules = tuple((k, (k + 1, k + 1) if k < 59 else ()) for k in range(60))
        self.same(first_looped((names, 0, rules)), None)
        self.same(first_looped((names, 0, rules + ((59, (58,)),))), 58)
