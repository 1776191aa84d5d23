"""[96], [98], (G12): the longest rows."""

import random

from stillends.judges import judge
from stillends.longestrows import longest
from stillends.needing import need
from stillends.tasks import is_good
from tests.chances import (
    DOUBLE, DYCK, LOST_TASKS, MODES, NO_TEXTS, PALINDROMES, REGULAR, in_sequence, known_tasks, rich_grammar, rich_task,
)
from tests.helpers import CUTS, FREE, FREE2, NEST, PAIRS, TASK, Case, rows_upto
from tests.proofs import takes_longest
from tests.test_setmachines import ONLY_A
from tests.test_spelledall import DEEP_TREE
from tests.test_trees import ODD_ONES, RING

ONE = (1, (0,), ((0,),))


def finite_grammar(chance):
    """A grammar by chance with finitely many texts, most often; each name leads to later ones, or to itself alone."""
    many = chance.randint(1, 4)
    rules = []
    for head in range(many):
        symbols = ["a", "b"] + list(range(head + 1, many))
        for _ in range(chance.randint(1, 3)):
            rules.append((head, tuple(chance.choice(symbols) for _ in range(chance.randint(0, 3)))))
        if chance.random() < 0.2:
            rules.append((head, (head,)))
    return (tuple(f"n{k}" for k in range(many)), 0, in_sequence(rules))


def pairs_grammar(many):
    """2 ** many letters a: each name is two of the next one."""
    return (tuple(f"n{k}" for k in range(many + 1)), 0, tuple((k, (k + 1, k + 1) if k < many else ("a",)) for k in range(many + 1)))


class LongestTest(Case):
    def check(self, task, most):
        """The answer as all rows of at most so many tokens tell it; it returns its first element."""
        answer = longest(task)
        rows = [row for row in rows_upto(len(task[1]), most) if is_good(task, row)]
        if answer[0] == "none":
            self.same((rows, need(task, ())), ([], None))
        else:
            self.assertIsNotNone(need(task, ()))
        if answer[0] == "most":
            self.same(is_good(task, answer[1]), True)
            if len(answer[1]) <= most:
                self.same(max(len(row) for row in rows), len(answer[1]))
        self.same(judge(task, "longest", answer), True)
        if len(repr(answer)) < 3000:
            self.same(takes_longest(task, answer), True)
        self.same(longest(task), answer)
        return answer[0]

    def test_by_rows(self):
        chance = random.Random(96)
        words = []
        for _ in range(300):
            grammar = finite_grammar(chance) if chance.random() < 0.6 else rich_grammar(chance)
            words.append(self.check(rich_task(chance, grammar, most=3), 4))
        for word in ("none", "most", "endless"):
            self.assertGreater(words.count(word), 20, word)

    def test_known_tasks(self):
        for task in known_tasks():
            self.check(task, 4)

    def test_example(self):
        self.same(longest((PAIRS, CUTS, FREE, "", "healed"))[:2], ("most", (0, 0)))

    def test_the_empty_row_and_none(self):
        self.same(longest((DEEP_TREE, ("a",), ONE, "", "behind"))[:2], ("most", ()))
        self.same(longest((ONLY_A, ("a",), (2, (0,), ((1,), (1,))), "", "behind"))[:2], ("most", ()))
        self.same(longest((NEST, CUTS, FREE, "aabb", "behind"))[:2], ("most", ()))
        for task in LOST_TASKS:
            self.same(self.check(task, 3), "none")
        self.same(longest((NO_TEXTS,) + TASK[1:]), ("none", ()))

    def test_books_that_end(self):
        # The book takes rows of at most so many tokens; with one more there is too much to hand out.
        for many in (1, 59, 60):
            book = (many + 1, tuple(range(many + 1)), tuple((k + 1 if k < many else -1,) for k in range(many + 1)))
            for mode in MODES:
                answer = longest((ONLY_A, ("a",), book, "", mode))
                self.same(answer[:2], ("most", (0,) * many))
                self.same(judge((ONLY_A, ("a",), book, "", mode), "longest", answer), True)

    def test_too_long_rows(self):
        for many in (6, 40):
            self.refuses("TooMuch('row')", longest, (pairs_grammar(many), ("a",), ONE, "", "behind"))
        self.same(longest((pairs_grammar(5), ("a",), ONE, "", "behind"))[:2], ("most", (0,) * 32))
        text = (("s",), 0, tuple((0, ("a",) * k) for k in range(13)))
        self.same(longest((text, ("a", "aa"), FREE2, "", "behind"))[:2], ("most", (0,) * 12))
        sixty = (("s", "t"), 0, ((0, (1,) * 12), (1, ("a",) * 5)))
        self.same(longest((sixty, ("a",), ONE, "", "healed"))[:2], ("most", (0,) * 60))
        more = (("s", "t"), 0, ((0, (1,) * 11 + ("a",)), (0, (1,) * 12), (1, ("a",) * 5), (1, ("a",) * 6)))
        self.refuses("TooMuch('row')", longest, (more, ("a",), ONE, "", "healed"))

    def test_loops(self):
        for grammar in (NEST, DYCK, REGULAR, DOUBLE, PALINDROMES):
            for begun in ("", "a", "ab"):
                for mode in MODES:
                    self.check((grammar, CUTS, FREE, begun, mode), 4)
        self.same(longest((REGULAR, ("a",), ONE, "ab", "behind"))[0], "endless")
        self.same(longest((REGULAR, ("a",), ONE, "ab", "healed"))[0], "none")

    def test_looped_names_make_nothing_longer(self):
        # Name 1 is two of itself, but empty.
        still = (("s", "t"), 0, ((0, ("a", 1, "b")), (1, ()), (1, (1, 1))))
        self.same(self.check((still,) + TASK[1:], 4), "most")
        unit = (("s", "t"), 0, ((0, (1,)), (0, ("a", "a")), (1, (0,)), (1, ("b",))))
        self.same(self.check((unit,) + TASK[1:], 4), "most")
        self.same(self.check((RING,) + TASK[1:], 4), "endless")
        # What can be empty stands beside the loop, and need not be.
        beside = (("s", "t"), 0, ((0, (1, 0)), (0, ("b",)), (1, ()), (1, ("a",))))
        self.same(self.check((beside,) + TASK[1:], 4), "endless")

    def test_loops_on_the_left_and_beside_what_can_be_empty(self):
        for rules in (
            ((0, (0, 1)), (0, ("b",)), (1, ("a",))),
            ((0, (0, 1)), (0, ("b",)), (1, ()), (1, ("a",))),
            ((0, ()), (0, (1, 0)), (1, (2, 3)), (2, ()), (2, ("a",)), (3, ()), (3, ("b",))),
            ((0, ()), (0, (0, 1)), (1, (2, 3)), (2, ()), (3, ()), (3, (2, 2)), (3, (2, 4, 2)), (4, ("a",)), (4, ("b",))),
            ((0, ()), (0, (1, 0, 1)), (1, (2, 3, 2)), (2, ()), (3, ()), (3, (4, 2)), (4, ()), (4, (2, 4)), (4, (4, "a"))),
            ((0, ()), (0, ("b", 0, 1)), (1, (2,)), (2, (1,)), (2, ("a",))),
        ):
            many = 1 + max(head for head, _ in rules)
            grammar = (tuple(f"n{k}" for k in range(many)), 0, rules)
            for begun in ("", "a", "ba"):
                for mode in MODES:
                    self.check((grammar, CUTS, FREE, begun, mode), 4)
            self.same(longest((grammar,) + TASK[1:])[0], "endless")

    def test_places_that_names_do_not_begin_at(self):
        # From the first place u does not lead on, though t leads there with the most tokens; but d does.
        rules = ((0, (1, 2)), (0, (1, "d")), (1, ("a",)), (1, ("c", "c", "c")), (2, ("b", "b")))
        book = (4, (2,), ((1, -1, 0, 2), (-1, 3, -1, -1), (-1, -1, -1, -1), (-1, 2, -1, -1)))
        task = ((("s", "t", "u"), 0, rules), ("a", "b", "c", "d"), book, "", "behind")
        self.same((longest(task)[:2], self.check(task, 4)), (("most", (2, 2, 2, 3)), "most"))

    def test_trees_of_4000_rules_and_of_4001(self):
        # Name 2 has one rule, 3 has 13, 4 has 157, 5 has 1,885; the empty tree of name 1 has 3,999 or 4,000.
        inner = ((2, ()), (3, (2,) * 12), (4, (3,) * 12), (5, (4,) * 12))
        for more, told in ((5, "endless"), (6, None)):
            rules = ((0, ("a", 1, 0)), (0, ("b",)), (1, (5, 5, 4, 6))) + inner + ((6, (3,) * 5 + (2,) * more),)
            task = ((tuple(f"n{k}" for k in range(7)), 0, rules), ("a", "b"), FREE2, "", "behind")
            if told:
                word, (outer, loop, tree) = longest(task)
                self.same((word, outer, len(loop), tree), ("endless", (-1,), 4001, (1,)))
                self.same(judge(task, "longest", (word, (outer, loop, tree))), True)
            else:
                self.refuses("TooMuch('tree')", longest, task)

    def test_endless_where_it_must_be_told(self):
        chance = random.Random(961)
        told = 0
        for _ in range(600):
            grammar = rich_grammar(chance)
            if all(len(body) <= 3 for _, body in grammar[2]):
                told += self.check(rich_task(chance, grammar, most=2), 3) == "endless"
        self.assertGreater(told, 10)

    def test_long_ways_around(self):
        # The loop leads through 40 names, and beside each of them stand some letters.
        names = tuple(f"n{k}" for k in range(40))
        ring = tuple((k, ("a", (k + 1) % 40, "b") if k % 2 else ((k + 1) % 40,)) for k in range(39))
        grammar = (names, 0, ring + ((39, ()), (39, (0,))))
        answer = longest((grammar, ("a", "b"), FREE2, "", "behind"))
        self.same((answer[0], judge((grammar, ("a", "b"), FREE2, "", "behind"), "longest", answer)), ("endless", True))

    def test_trees_that_are_too_large(self):
        names, _, rules = DEEP_TREE
        grammar = (names, 0, ((0, ("a", 1, 0)), (0, ("b",))) + rules[1:])
        self.refuses("TooMuch('tree')", longest, (grammar,) + TASK[1:])

    def test_much_that_is_begun(self):
        for grammar, begun in ((DYCK, "ab" * 200), (PALINDROMES, "a" * 60 + "b" * 60), (NEST, "a" * 400)):
            for mode in MODES:
                answer = longest((grammar, CUTS, FREE, begun, mode))
                self.same((answer[0], judge((grammar, CUTS, FREE, begun, mode), "longest", answer)), ("endless", True))
        self.refuses("TooMuch('row')", longest, (NEST, CUTS, FREE, "a" * 200 + "b" * 190, "healed"))
        self.same(longest((NEST, CUTS, FREE, "a" * 200 + "b" * 150, "behind"))[:2], ("most", (1,) * 50))

    def test_useless_parts_are_let_in(self):
        self.check((ODD_ONES, CUTS, FREE, "", "behind"), 3)
        self.check((ODD_ONES, ("c", "d"), FREE2, "", "behind"), 3)
