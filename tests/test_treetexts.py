"""[4], [27], [30]: the texts of trees, and their spans."""

from stillends.trees import kids
from stillends.treetexts import spans, tree_text
from tests.helpers import NEST, PAIRS, Case
from tests.test_trees import GRAMMARS, NO_TREES, ODD_ONES, RING, all_trees


def text_of(grammar, tree):
    """The text by [30]: the body of the first rule with the texts of the kids in the places of the names."""
    below = list(kids(grammar, tree))
    body = grammar[2][tree[0]][1]
    return "".join(symbol if isinstance(symbol, str) else text_of(grammar, below.pop(0)) for symbol in body)


def spans_by_kids(grammar, tree, start):
    """The spans of a tree whose letters begin at start."""
    below = list(kids(grammar, tree))
    found = [(start, start + len(text_of(grammar, tree)))]
    at = start
    for symbol in grammar[2][tree[0]][1]:
        if isinstance(symbol, str):
            at += 1
        else:
            kid = below.pop(0)
            found.extend(spans_by_kids(grammar, kid, at))
            at += len(text_of(grammar, kid))
    return found


class TreeTextsTest(Case):
    def test_by_the_kids(self):
        for grammar in GRAMMARS:
            for tree in all_trees(grammar, 6):
                self.same(tree_text(grammar, tree), text_of(grammar, tree))
                self.same(spans(grammar, tree), tuple(spans_by_kids(grammar, tree, 0)))

    def test_trees_without_letters(self):
        self.same(tree_text(NEST, (0,)), "")
        self.same(spans(NEST, (0,)), ((0, 0),))
        self.same(spans(RING, (2, 1, 2, 0, 1)), ((0, 2), (0, 1), (1, 2), (1, 1), (1, 2)))

    def test_a_useless_name(self):
        self.same(tree_text(ODD_ONES, (4, 0, 1, 5)), "cad")
        self.same(spans(ODD_ONES, (4, 0, 1, 5)), ((0, 3), (1, 2), (2, 2), (3, 3)))

    def test_long_and_deep_trees(self):
        deep = (1,) * 5000 + (0,)
        self.same(tree_text(NEST, deep), "a" * 5000 + "b" * 5000)
        self.same(spans(NEST, deep), tuple((k, 10000 - k) for k in range(5001)))
        left = (2,) * 4000 + (1,) * 4001
        self.same(tree_text(RING, left), "a" * 4001)
        found = spans(RING, left)
        self.same(found[:4000], tuple((0, 4001 - k) for k in range(4000)))
        self.same(found[4000:], tuple((k, k + 1) for k in range(4001)))

    def test_refuse(self):
        for function in (tree_text, spans):
            self.refuses_all("NotUsable('tree')", function, (NEST,), NO_TREES + ((1,), (0, 0), [0], (False,)))
            self.refuses_all("NotUsable('tree')", function, (PAIRS,), ((0, 1), (0, 1, 0), (1, 1)))
