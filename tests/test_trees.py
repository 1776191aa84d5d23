"""[4], [26], [30]: trees, their kids, and grafting."""

from itertools import product

from stillends.trees import grafted, is_of_grammar, kids, lets_tree
from tests.helpers import DEEP, NEST, ODD, PAIRS, PART, Case

RING = (("s",), 0, ((0, ()), (0, ("a",)), (0, (0, 0))))
# Name 1 has no rules, name 2 no tree, name 3 is useless but has trees.
ODD_ONES = (("s", "t", "u", "v"), 0, ((0, ("a", 0)), (0, ()), (0, (1,)), (2, (2, "b")), (3, ("c", 0, "d", 3)), (3, ())))
GRAMMARS = (NEST, PAIRS, PART, RING, ODD_ONES)
NO_TREES = ODD + ("", "0", (), [], (7,), (0, 0, 0, 9), (10**59,), ("s",), ((0,),), (0, "a"), DEEP)


def trees_of(grammar, name, most):
    """All trees of the name with at most so many rules, by the definition."""
    found = []
    for rule, (head, body) in enumerate(grammar[2]):
        if head == name and most > 0:
            parts = [trees_of(grammar, symbol, most - 1) for symbol in body if isinstance(symbol, int)]
            for below in product(*parts):
                tree = (rule,) + sum(below, ())
                if len(tree) <= most:
                    found.append(tree)
    return found


def all_trees(grammar, most):
    """A dict from each tree of at most so many rules to its name."""
    return {tree: name for name in range(len(grammar[0])) for tree in trees_of(grammar, name, most)}


class LetsTreeTest(Case):
    def test_just_the_trees(self):
        for grammar in GRAMMARS:
            trees = all_trees(grammar, 5)
            self.assertTrue(trees)
            for length in range(6):
                for thing in product(range(len(grammar[2])), repeat=length):
                    if thing in trees:
                        self.same(lets_tree(grammar, thing), trees[thing])
                    else:
                        self.refuses(self.fault(grammar, thing), lets_tree, grammar, thing)
                    self.same(is_of_grammar(grammar, thing), trees.get(thing) == grammar[1])

    def fault(self, grammar, thing):
        """The first fault, by the due names as a tuple."""
        if thing == ():
            return "InvalidPaper('shape', -1)"
        due = (grammar[2][thing[0]][0],)
        for k, rule in enumerate(thing):
            head, body = grammar[2][rule]
            if due == ():
                return f"InvalidPaper('rest', {k})"
            if due[0] != head:
                return f"InvalidPaper('rule', {k})"
            due = tuple(symbol for symbol in body if isinstance(symbol, int)) + due[1:]
        return f"InvalidPaper('end', {len(thing)})"

    def test_shape(self):
        for thing in (None, True, 0, "", "0", [], [0], ()):
            self.refuses("InvalidPaper('shape', -1)", lets_tree, NEST, thing)

    def test_rule(self):
        for rule in (None, True, False, -1, 2, "0", (0,), [0], 10**59):
            self.refuses("InvalidPaper('rule', 0)", lets_tree, NEST, (rule,))
            self.refuses("InvalidPaper('rule', 1)", lets_tree, NEST, (1, rule, 0, 0))
            # What is no rule is told so even where none is due.
            self.refuses("InvalidPaper('rule', 1)", lets_tree, NEST, (0, rule))
        self.refuses("InvalidPaper('rule', 2)", lets_tree, PAIRS, (0, 1, 0, 1, 1))
        self.refuses("InvalidPaper('rule', 0)", lets_tree, (("s",), 0, ()), (0,))

    def test_rest(self):
        self.refuses("InvalidPaper('rest', 1)", lets_tree, NEST, (0, 0))
        self.refuses("InvalidPaper('rest', 3)", lets_tree, PAIRS, (0, 1, 1, 1, None))

    def test_end(self):
        self.refuses("InvalidPaper('end', 1)", lets_tree, NEST, (1,))
        self.refuses("InvalidPaper('end', 2)", lets_tree, PAIRS, (0, 1))
        self.refuses("InvalidPaper('end', 1)", lets_tree, ODD_ONES, (2,))

    def test_trees_of_other_names(self):
        self.same(lets_tree(PAIRS, (2,)), 1)
        self.same(lets_tree(ODD_ONES, (4, 0, 1, 5)), 3)

    def test_names_are_due_from_the_left(self):
        grammar = (("s", "t", "u"), 0, ((0, (1, "x", 2)), (1, (2, 2)), (2, ())))
        self.same(lets_tree(grammar, (0, 1, 2, 2, 2)), 0)
        self.refuses("InvalidPaper('rule', 1)", lets_tree, grammar, (0, 2, 1, 2, 2))

    def test_deep_trees(self):
        self.same(lets_tree(NEST, (1,) * 50000 + (0,)), 0)
        self.same(lets_tree(RING, (2,) * 20000 + (0,) * 20001), 0)
        self.refuses("InvalidPaper('end', 50000)", lets_tree, NEST, (1,) * 50000)


class KidsTest(Case):
    def test_grafted_of_the_kids_is_the_tree(self):
        for grammar in GRAMMARS:
            trees = all_trees(grammar, 6)
            for tree in trees:
                below = kids(grammar, tree)
                names = [symbol for symbol in grammar[2][tree[0]][1] if isinstance(symbol, int)]
                self.same([trees[kid] for kid in below], names)
                self.same(tree[:1] + sum(below, ()), tree)
                self.same(grafted(grammar, tree[0], below), tree)

    def test_no_kids(self):
        self.same(kids(NEST, (0,)), ())
        self.same(kids(PART, (2,)), ())
        self.same(grafted(PART, 2, ()), (2,))

    def test_many_and_deep_kids(self):
        grammar = (("s",), 0, ((0, (0,) * 12), (0, ())))
        below = ((1,), (0,) + (1,) * 12) * 6
        self.same(kids(grammar, (0,) + sum(below, ())), below)
        deep = (1,) * 5000 + (0,)
        self.same(kids(NEST, deep), (deep[1:],))
        self.same(grafted(NEST, 1, (deep,)), (1,) + deep)
        left = (2,) * 5000 + (0,) * 5001
        self.same(kids(RING, (2,) + left + (1,)), (left, (1,)))

    def test_kids_refuses(self):
        self.refuses_all("NotUsable('tree')", kids, (NEST,), NO_TREES + ((1,), (1, 0, 0), [1, 0], (True, 0), (1, False)))

    def test_grafted_refuses_the_rule(self):
        for rule in (None, True, False, -1, 3, 10**59, "0", (0,), [0]):
            self.refuses("NotUsable('rule')", grafted, PAIRS, rule, ((1,), (1,)))
            self.refuses("NotUsable('rule')", grafted, PAIRS, rule, None)

    def test_grafted_refuses_the_kids(self):
        wrong = (
            None, True, 0, "", (), ((1,),), ((1,), (1,), (1,)), [(1,), (1,)], ([1], [1]), ((1,), (0, 1, 1)),
            ((1,), (1, 1)), ((1,), ()), ((1,), None), (1, 1), ((1,), (True,)), ((1,), 1), ((1,), ((1,),)), DEEP,
        )
        self.refuses_all("NotUsable('kids')", grafted, (PAIRS, 0), wrong)
        self.refuses("NotUsable('kids')", grafted, PAIRS, 1, ((1,),))
        self.refuses("NotUsable('kids')", grafted, ODD_ONES, 2, ((),))

    def test_kids_stand_in_sequence(self):
        grammar = (("s", "t", "u"), 0, ((0, (1, "x", 2)), (1, ("t",)), (2, ())))
        self.same(grafted(grammar, 0, ((1,), (2,))), (0, 1, 2))
        self.refuses("NotUsable('kids')", grafted, grammar, 0, ((2,), (1,)))


class IsOfGrammarTest(Case):
    def test_trees_of_the_start_alone(self):
        self.same(is_of_grammar(PAIRS, (0, 1, 2)), True)
        self.same(is_of_grammar(PAIRS, (1,)), False)
        self.same(is_of_grammar((("t", "s"), 1, ((0, ()), (1, (0,)))), (1, 0)), True)
        self.same(is_of_grammar(NEST, (1,) * 50000 + (0,)), True)

    def test_other_things(self):
        for thing in NO_TREES + ((False,), (True, 0), (1, False), [0], [1, 0]):
            self.same(is_of_grammar(NEST, thing), False)
