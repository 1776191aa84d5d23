"""[9], [58], [67]: follows."""

import random

from stillends.follows import follow_letters
from tests.chances import FORK, NO_TEXTS, one_way_grammar, rich_grammar
from tests.helpers import NEST, PART, Case
from tests.test_trees import ODD_ONES, RING
from tests.test_usefulness import parts_by_sets


def forms(grammar, most):
    """All sequences of at most so many symbols that the start derives by useful rules, through such sequences alone."""
    names, rules = parts_by_sets(grammar)
    found = {(grammar[1],)} if grammar[1] in names else set()
    due = list(found)
    while due:
        form = due.pop()
        for k, symbol in enumerate(form):
            for rule in rules:
                if grammar[2][rule][0] == symbol and isinstance(symbol, int):
                    other = form[:k] + grammar[2][rule][1] + form[k + 1 :]
                    if len(other) <= most and other not in found:
                        found.add(other)
                        due.append(other)
    return found


def seen_behind(grammar, most):
    """For each name what stands right behind it in these sequences: letters, and the empty string at the end."""
    found = [set() for _ in grammar[0]]
    for form in forms(grammar, most):
        for symbol, behind in zip(form, form[1:] + ("",)):
            if isinstance(symbol, int) and isinstance(behind, str):
                found[symbol].add(behind)
    return tuple(tuple(sorted(signs)) for signs in found)


class FollowLettersTest(Case):
    def short(self, chance, grammar):
        """The grammar with bodies of at most two symbols."""
        rules = sorted({(head, body[:2]) for head, body in grammar[2]}, key=lambda rule: (rule[0], str(rule[1])))
        return (grammar[0], grammar[1], tuple(rules))

    def test_by_derived_symbols(self):
        chance = random.Random(58)
        for _ in range(60):
            grammar = self.short(chance, rich_grammar(chance)) if chance.random() < 0.5 else one_way_grammar(chance)
            if len(grammar[0]) <= 3:
                found = follow_letters(grammar)
                self.same(found, seen_behind(grammar, 6))

    def test_all_that_is_seen_is_told(self):
        chance = random.Random(581)
        for _ in range(100):
            grammar = rich_grammar(chance)
            for told, seen in zip(follow_letters(grammar), seen_behind(grammar, 4)):
                self.assertTrue(set(seen) <= set(told))

    def test_edges(self):
        self.same(follow_letters(FORK), (("",), ("b", "c"), ()))
        self.same(follow_letters(NEST), (("", "b"),))
        self.same(follow_letters(NO_TEXTS), ((),))
        self.same(follow_letters(RING), (("", "a"),))
        self.same(follow_letters(ODD_ONES), (("",), (), (), ()))
        self.same(follow_letters(PART), (("",), ("", "c"), ()))
        # Behind t there may be u, which may be empty, and v, which may not.
        chain = (("s", "t", "u", "v"), 0, ((0, (1, 2, 3)), (1, ()), (2, ()), (2, (" ",)), (3, ("c", 3)), (3, ("d",))))
        self.same(follow_letters(chain), (("",), (" ", "c", "d"), ("c", "d"), ("",)))
        ring = (("s", "t"), 0, ((0, ("a", 1)), (0, ("b", 1, 1)), (1, ()), (1, (0, "!"))))
        self.same(follow_letters(ring), (("", "!"), ("", "!", "a", "b")))

    def test_not_empty_for_useful_names(self):
        chance = random.Random(67)
        for _ in range(200):
            grammar = rich_grammar(chance)
            useful = parts_by_sets(grammar)[0]
            self.same(tuple(name for name, signs in enumerate(follow_letters(grammar)) if signs), useful)

    def test_up_to_the_limits(self):
        names = tuple(f"n{k}" for k in range(60))
        rules = tuple((k, (k + 1,)) for k in range(59)) + ((59, ("a", 0, "b")), (59, ("c",)))
        self.same(follow_letters((names, 0, rules)), (("", "b"),) * 60)
