"""[4], [28], [30]: useful names and rules, and least trees."""

import random

from stillends.grammars import lets_grammar
from stillends.trees import lets_tree
from stillends.treetexts import tree_text
from stillends.usefulness import least_tree, useful_parts
from tests.helpers import DEEP, NEST, ODD, PART, Case
from tests.test_trees import GRAMMARS, ODD_ONES, RING, all_trees, trees_of


def names_in(body):
    return [symbol for symbol in body if isinstance(symbol, int)]


def some_grammar(chance):
    """A small grammar by chance; some names have no rules, or no trees."""
    many = chance.randint(1, 4)
    rules = set()
    for _ in range(chance.randint(0, 7)):
        symbols = list(range(many)) + ["a", "b"]
        rules.add((chance.randrange(many), tuple(chance.choice(symbols) for _ in range(chance.randint(0, 3)))))
    rules = sorted(rules, key=lambda rule: (rule[0], [str(symbol) for symbol in rule[1]]))
    return (tuple(f"n{k}" for k in range(many)), chance.randrange(many), tuple(rules))


def parts_by_sets(grammar):
    """Useful names and rules, by growing the set of names with trees, and then that of names led to."""
    names, start, rules = grammar
    full = set()
    for _ in names:
        full |= {head for head, body in rules if set(names_in(body)) <= full}
    led = {start} & full
    for _ in names:
        for head, body in rules:
            if head in led and set(names_in(body)) <= full:
                led = led | set(names_in(body))
    used = [k for k, (head, body) in enumerate(rules) if head in led and set(names_in(body)) <= full]
    return (tuple(sorted(led)), tuple(used))


def sizes_by_growing(grammar):
    """For each name the least pair of letters and rules, fixing one name after another, the least first."""
    sizes = {}
    while True:
        found = []
        for head, body in grammar[2]:
            if head not in sizes and all(name in sizes for name in names_in(body)):
                letters = len(body) - len(names_in(body)) + sum(sizes[name][0] for name in names_in(body))
                found.append((letters, 1 + sum(sizes[name][1] for name in names_in(body)), head))
        if not found:
            return sizes
        letters, rules, head = min(found)
        sizes[head] = (letters, rules)


class UsefulPartsTest(Case):
    def test_by_sets(self):
        chance = random.Random(28)
        for _ in range(400):
            grammar = some_grammar(chance)
            names, rules = useful_parts(grammar)
            self.same((names, rules), parts_by_sets(grammar))
            met = [name for rule in rules for name in [grammar[2][rule][0]] + names_in(grammar[2][rule][1])]
            self.same(names, tuple(sorted(set(met))))
            self.same(grammar[1] in names, bool(names))
            self.same(least_tree(grammar, grammar[1]) is not None, bool(names))

    def test_rules_of_trees_of_the_grammar_are_useful(self):
        for grammar in GRAMMARS:
            names, rules = useful_parts(grammar)
            found = {rule for tree in trees_of(grammar, grammar[1], 7) for rule in tree}
            self.same(rules, tuple(sorted(found)))
            self.same(names, tuple(sorted({grammar[2][rule][0] for rule in found})))

    def test_no_trees(self):
        self.same(useful_parts((("s",), 0, ())), ((), ()))
        self.same(useful_parts((("s", "t"), 0, ((0, (0,)), (1, ())))), ((), ()))
        self.same(useful_parts((("s", "t"), 0, ((0, (1, "a")), (1, (0,))))), ((), ()))

    def test_edges(self):
        self.same(useful_parts(ODD_ONES), ((0,), (0, 1)))
        self.same(useful_parts((("t", "s"), 1, ((0, ()), (1, ())))), ((1,), (1,)))
        self.same(useful_parts((("t", "s"), 1, ((0, ()), (1, (0, 0))))), ((0, 1), (0, 1)))

    def test_a_rule_of_a_useful_name_may_be_useless(self):
        self.same(useful_parts((("s", "t", "u"), 0, ((0, (1, 2)), (0, ()), (1, ("a",)), (2, (2,))))), ((0,), (1,)))

    def test_up_to_the_limits(self):
        names = tuple(f"n{k}" for k in range(60))
        rules = tuple((k, (k + 1,) if k < 59 else ()) for k in range(60))
        self.same(useful_parts((names, 0, rules)), (tuple(range(60)), tuple(range(60))))
        self.same(useful_parts((names, 0, rules[:59])), ((), ()))


class LeastTreeTest(Case):
    def check(self, grammar, name, size):
        tree = least_tree(grammar, name)
        if size is None:
            self.same(tree, None)
        else:
            self.same(lets_tree(grammar, tree), name)
            self.same((len(tree_text(grammar, tree)), len(tree)), size)

    def test_by_growing(self):
        chance = random.Random(30)
        for _ in range(400):
            grammar = some_grammar(chance)
            sizes = sizes_by_growing(grammar)
            for name in range(len(grammar[0])):
                self.check(grammar, name, sizes.get(name))

    def test_no_tree_is_less(self):
        for grammar in GRAMMARS:
            trees = all_trees(grammar, 7)
            for name in range(len(grammar[0])):
                own = [(len(tree_text(grammar, tree)), len(tree)) for tree in trees if trees[tree] == name]
                self.check(grammar, name, min(own) if own else None)

    def test_fewest_letters_come_ahead_of_fewest_rules(self):
        grammar = (("s", "t"), 0, ((0, ("a",)), (0, (1, 1)), (1, (1,)), (1, ())))
        self.same(least_tree(grammar, 0), (1, 3, 3))
        self.same(least_tree((("s", "t"), 0, ((0, (1,)), (0, ("a",)), (1, ("a",)))), 0), (1,))

    def test_useless_names_and_names_without_trees(self):
        self.same([least_tree(ODD_ONES, name) for name in range(4)], [(1,), None, None, (5,)])
        self.same(least_tree(PART, 2), None)
        self.same(least_tree(PART, 1), (2,))
        self.same(least_tree(RING, 0), (0,))
        self.same(least_tree((("s",), 0, ()), 0), None)

    def test_four_thousand_rules_and_one_more(self):
        self.same(lets_grammar(self.chain(4000)), 8)
        for many in (3999, 4000):
            tree = least_tree(self.chain(many), 0)
            self.same(len(tree), many)
            self.same(lets_tree(self.chain(many), tree), 0)
        for many in (4001, 4002):
            self.refuses("TooMuch('tree')", least_tree, self.chain(many), 0)

    def chain(self, many):
        """A grammar whose start has one tree, of just so many rules."""
        bodies = []
        while many > 13:
            # Eleven times the next name but one, and once the next one, which has as many rules as are left over.
            below = (many - 1) // 11 if (many - 1) // 11 * 11 < many - 1 else (many - 1) // 11 - 1
            bodies.append((below, many - 1 - 11 * below))
            many = below
        last = 2 * len(bodies) + 1
        rules = []
        for k, (_, rest) in enumerate(bodies):
            rules.append((2 * k, (2 * k + 2,) * 11 + (2 * k + 1,)))
            rules.append((2 * k + 1, (last,) * (rest - 1)))
        rules.append((last - 1, (last,) * (many - 1)))
        rules.append((last, ()))
        return (tuple(f"n{k}" for k in range(last + 1)), 0, tuple(rules))

    def test_numbers_of_any_size(self):
        names = tuple(f"n{k}" for k in range(60))
        rules = tuple((k, (k + 1,) * 12 if k < 59 else ("a",) * 12) for k in range(60))
        self.refuses("TooMuch('tree')", least_tree, (names, 0, rules), 0)
        self.same(len(least_tree((names, 0, rules), 57)), 157)
        short = rules[:1] + ((0, ("b",) * 3),) + rules[1:]
        self.same(least_tree((names, 0, short), 0), (1,))

    def test_only_the_least_tree_counts_for_the_limit(self):
        names = tuple(f"n{k}" for k in range(6))
        rules = tuple((k, (k + 1,) * 12 if k < 5 else ()) for k in range(6))
        self.refuses("TooMuch('tree')", least_tree, (names, 0, rules), 0)
        self.same(least_tree((names, 0, ((0, ("a",)),) + rules[1:]), 0), (0,))
        # Fewer letters are less, though this tree has too many rules.
        self.refuses("TooMuch('tree')", least_tree, (names, 0, ((0, ("a",)),) + rules), 0)

    def test_refuses(self):
        for name in ODD + (1, 10**59, "s", "0", (0,), (), DEEP):
            self.refuses("NotUsable('name')", least_tree, NEST, name)
