"""[9], [13], [59], [60], [67], (G6): predicts, clashes, and grammars that read one way."""

import random

from stillends.firsts import first_letters
from stillends.follows import follow_letters
from stillends.nulls import nullable_names
from stillends.predicting import first_clash, predicts, reads_one_way
from stillends.treecounts import count_trees
from tests.chances import (
    DOUBLE, DYCK, FORK, LEFT, LISTS, NO_TEXTS, PALINDROMES, REGULAR, in_sequence, one_way_grammar, rich_grammar,
)
from tests.helpers import NEST, PAIRS, PART, Case, texts_over
from tests.plainly import Stands
from tests.test_trees import ODD_ONES, RING
from tests.test_usefulness import parts_by_sets


def predicts_by_texts(grammar):
    stands = Stands(grammar)
    follows = follow_letters(grammar)
    found = []
    for rule, (head, body) in enumerate(grammar[2]):
        signs = stands.first(body) if rule in stands.rules else set()
        found.append(tuple(sorted(signs - {""} | (set(follows[head]) if "" in signs else set()))))
    return tuple(found)


class PredictsTest(Case):
    def test_by_texts(self):
        chance = random.Random(59)
        for grammar in [rich_grammar(chance) for _ in range(300)] + [one_way_grammar(chance) for _ in range(100)]:
            found = predicts(grammar)
            self.same(found, predicts_by_texts(grammar))
            useful = parts_by_sets(grammar)[1]
            self.same(tuple(rule for rule, signs in enumerate(found) if signs), useful)

    def test_edges(self):
        self.same(predicts(FORK), (("a", "c"), ("b", "c"), ("a",), ()))
        self.same(predicts(NEST), (("", "b"), ("a",)))
        self.same(predicts(NO_TEXTS), ())
        self.same(predicts(ODD_ONES), (("a",), ("",), (), (), (), ()))
        self.same(predicts(RING), (("", "a"), ("a",), ("", "a")))


class FirstClashTest(Case):
    def test_first_of_all(self):
        chance = random.Random(60)
        clashes = 0
        for grammar in [rich_grammar(chance) for _ in range(300)] + [one_way_grammar(chance) for _ in range(50)]:
            signs = predicts_by_texts(grammar)
            found = []
            for other in range(len(grammar[2])):
                for rule in range(other):
                    if grammar[2][rule][0] == grammar[2][other][0]:
                        both = set(signs[rule]) & set(signs[other])
                        found.extend((grammar[2][rule][0], rule, other, sign) for sign in both)
            expected = min(found, default=None)
            self.same(first_clash(grammar), expected)
            self.same(reads_one_way(grammar), expected is None)
            clashes += expected is not None
        self.assertGreater(clashes, 100)

    def test_edges(self):
        self.same(first_clash((("s", "t"), 0, ((0, ()), (0, (1,)), (1, ())))), (0, 0, 1, ""))
        several = (("s",), 0, ((0, ("a",)), (0, ("b",)), (0, ("c",)), (0, ("c", "a")), (0, ("b", "b"))))
        self.same(first_clash(several), (0, 1, 4, "b"))
        self.same(first_clash(RING), (0, 0, 1, "a"))
        self.same(first_clash(PAIRS), (1, 1, 2, "a"))
        self.same(first_clash(LEFT), (0, 0, 1, "a"))
        self.same(first_clash(PART), (1, 2, 3, "b"))
        for grammar in (NEST, FORK, REGULAR, DYCK, LISTS, NO_TEXTS, ODD_ONES):
            self.same((first_clash(grammar), reads_one_way(grammar)), (None, True))
        for grammar in (DOUBLE, PALINDROMES):
            self.same(reads_one_way(grammar), False)
        # Two useless rules do not clash.
        self.same(first_clash((("s", "t"), 0, ((0, ("a",)), (1, ("b",)), (1, ("b", "b"))))), None)
        self.same(first_clash((("s", "t"), 0, ((0, ("a",)), (0, ("a", 1)), (1, (1, "b"))))), None)

    def test_one_way_means_one_tree(self):
        """(G6): one tree at most; no letter both among the first letters and in the follow of what can be empty."""
        chance = random.Random(601)
        for _ in range(80):
            grammar = one_way_grammar(chance)
            for text in texts_over("ab", 5):
                self.assertTrue(count_trees(grammar, text) <= 1)
            useful = parts_by_sets(grammar)[0]
            for name in nullable_names(grammar):
                if name in useful:
                    self.assertFalse(set(first_letters(grammar)[name]) & set(follow_letters(grammar)[name]))

    def test_up_to_the_limits(self):
        letters = [chr(k) for k in range(32, 127) if chr(k) != "%"]
        rules = [(0, (sign, 0)) for sign in letters] + [(0, ())]
        rules += [(1, (a, b)) for a in letters[:3] for b in letters]
        grammar = (("s", "t"), 0, in_sequence(rules))
        self.same(reads_one_way(grammar), True)
        grammar = (("s", "t"), 0, in_sequence(rules + [(0, (1,))]))
        self.same(first_clash(grammar)[0], 0)
