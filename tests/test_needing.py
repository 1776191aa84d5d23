"""[5], [47], (G4): needs."""

import random

from stillends.needing import need, needs
from stillends.tasks import is_good
from tests.chances import (
    DOUBLE, DYCK, LEFT, LISTS, NO_TEXTS, PALINDROMES, REGULAR, known_tasks, rich_grammar, rich_task, ring_grammar,
    some_row,
)
from tests.helpers import BAD_ROWS, CUTS, FREE, FREE2, NEST, PART, TASK, Case, rows_upto
from tests.plainly import need_by_rows, need_by_ways
from tests.test_trees import ODD_ONES, RING


def free(tokens):
    return (1, (0,), ((0,) * len(tokens),))


class NeedTest(Case):
    def check(self, task, row):
        expected = need_by_ways(task, row)
        self.same(need(task, row), expected)
        self.same(needs(task, row), tuple(need_by_ways(task, row + (token,)) for token in range(len(task[1]))))
        return expected

    def test_by_ways(self):
        chance = random.Random(47)
        found = []
        for _ in range(1200):
            task = rich_task(chance, rich_grammar(chance))
            found.append(self.check(task, some_row(chance, task)))
        self.assertGreater(sum(number is not None for number in found), 250)
        self.assertGreater(sum(number is not None and number > 1 for number in found), 30)

    def test_known_tasks(self):
        for task in known_tasks():
            for row in ((), (0,), (1,), (0, 1), (1, 0), (0, 0, 1)):
                self.check(task, row)

    def test_by_rows(self):
        """The need is the number of tokens of the shortest ending, and none is shorter."""
        chance = random.Random(471)
        met = set()
        for _ in range(250):
            task = rich_task(chance, rich_grammar(chance), most=3)
            row = some_row(chance, task, 2)
            expected = need_by_rows(task, row, 4)
            found = need(task, row)
            if expected is not None or found is not None and found <= 4:
                self.same(found, expected)
            met.add(expected)
        self.assertTrue({None, 0, 1, 2} <= met)

    def test_guarantee(self):
        """(G4): 0 if the row is good, otherwise 1 and the least need of the rows with one more token."""
        for task in known_tasks():
            for row in rows_upto(len(task[1]), 2):
                others = [number for number in needs(task, row) if number is not None]
                expected = 0 if is_good(task, row) else 1 + min(others) if others else None
                self.same(need(task, row), expected)

    def test_example(self):
        self.same((need(TASK, (0,)), needs(TASK, (0,)), needs(TASK, (1,))), (1, (2, 0, 1), (None, None, None)))
        self.same(needs((NEST, CUTS, FREE, "a", "healed"), ()), (1, None, 0))

    def test_all_are_lost(self):
        for grammar in (NO_TEXTS, (("s", "t"), 0, ((0, (1,)), (1, (0,)))), (("s", "t"), 0, ((1, ("a",)),))):
            self.same((need((grammar,) + TASK[1:], ()), needs((grammar,) + TASK[1:], ())), (None, (None,) * 3))
        for finals in ((), (1,)):
            task = (NEST, CUTS, (2, finals, ((0, 0, 0), (1, 1, 1))), "", "behind")
            self.same((need(task, ()), needs(task, (0,))), (None, (None,) * 3))
        # What is begun is the beginning of no text.
        for mode in ("behind", "healed"):
            self.same(needs((NEST, CUTS, FREE, "b", mode), ()), (None,) * 3)
        self.same(need((NEST, ("a",), (1, (0,), ((0,),)), "b", "behind"), ()), None)

    def test_no_place_behind_the_row(self):
        book = (2, (0, 1), ((1, 0, 0), (-1, 0, 0)))
        self.same(need((NEST, CUTS, book, "", "behind"), (0, 0)), None)
        self.same(needs((NEST, CUTS, book, "", "behind"), (0,)), (None, 0, 1))
        self.same(needs((NEST, CUTS, FREE, "ab", "healed"), (0, 0)), (None,) * 3)

    def test_begun_not_passed_yet(self):
        task = (NEST, ("a", "aa", "b", "bb"), (1, (0,), ((0,) * 4,)), "aaa", "healed")
        self.same([need(task, row) for row in ((), (0,), (1,), (1, 1), (0, 1), (2,))], [4, 3, 3, 2, 2, None])
        self.same(needs(task, (1,)), (2, 2, None, None))

    def test_useless_and_looped_names(self):
        self.same(needs((RING,) + TASK[1:], ()), (0, None, None))
        self.same(needs((ODD_ONES, ("a", "b", "c"), FREE, "", "behind"), ()), (0, None, None))
        self.same(needs((PART, ("b", "c", "a"), FREE, "", "behind"), ()), (0, None, None))

    def test_sixty_tokens_and_more(self):
        row = (0,) * 60
        self.same(need(TASK, row), 60)
        self.same(needs(TASK, row), (61, 59, 60))
        self.same(needs((NEST, CUTS, FREE, "a" * 400, "behind"), row), (461, 459, 460))
        tokens = ("a" * 12, "b" * 11, "b" * 12)
        # Behind 400 + 60 * 12 letters a: 94, 92 and 92 tokens of at most twelve letters b would not do.
        self.same(needs((NEST, tokens, FREE, "a" * 400, "behind"), row), (95, 93, 93))
        self.same(needs((REGULAR, ("a", "b"), FREE2, "ab" * 200, "behind"), row), (0, 0))
        self.same(needs((REGULAR, ("a", "b"), FREE2, "ab" * 200, "healed"), (0, 1) * 30), (339, None))

    def test_numbers_of_any_size(self):
        names = tuple(f"n{k}" for k in range(60))
        for times in (2, 12):
            rules = tuple((k, (k + 1,) * times if k < 59 else ("a",)) for k in range(60))
            task = ((names, 0, rules), ("a", "aa"), FREE2, "", "behind")
            self.same(need(task, ()), times**59 // 2)
            self.same(needs(task, (1,)), ((times**59 - 2) // 2, (times**59 - 4) // 2))
            self.same(need(task[:3] + ("a" * 399, "healed"), ()), times**59 // 2)

    def test_up_to_the_limits(self):
        tokens = tuple("a" * k for k in range(1, 13)) + tuple("b" * k for k in range(1, 13))
        ring = (60, (7,), tuple(tuple((state + 1) % 60 for _ in tokens) for state in range(60)))
        self.same(need((NEST, tokens, ring, "", "behind"), ()), 7)
        self.same(need((NEST, tokens, ring, "a" * 200, "behind"), ()), 67)
        many = tuple(f"{a}{b}" for a in "abcdefghijkl" for b in "0123456789")
        lists = (("s", "t"), 0, ((0, ()), (0, (1, 0)), (1, ("a", "0"))))
        self.same(needs((lists, many, free(many), "a0" * 200, "healed"), (0,) * 3), (196,) + (None,) * 119)
        names = tuple(f"n{k}" for k in range(60))
        rules = []
        for k in range(59):
            rules.extend([(k, (k + 1,)), (k, ("a", k + 1, "b")), (k, (k + 1, "c")), (k, ("x", k)), (k, ("y", k))])
        chain = (names, 0, tuple(rules) + ((59, ()), (59, ("a",))))
        self.same(needs((chain, tuple("abcxy"), (1, (0,), ((0,) * 5,)), "xyy" * 20 + "a" * 9, "behind"), ()), (9, 7, 8, 9, 9))

    def test_long_texts_of_many_trees(self):
        for grammar in (DOUBLE, LEFT, REGULAR, DYCK, PALINDROMES):
            task = (grammar, ("a", "b"), FREE2, "ab" * 60, "behind")
            self.same(need(task, (0, 1)), need_by_ways(task, (0, 1)))
        begun = "badab" * 40
        self.same(need((LISTS, tuple("abcd"), (1, (0,), ((0,) * 4,)), "badb" * 60, "behind"), ()), 120)
        self.same(need((LISTS, tuple("abcd"), (1, (0,), ((0,) * 4,)), begun, "behind"), ()), None)

    def test_names_that_all_lead_to_one_another(self):
        book = (1, (0,), ((0,) * 5,))
        for many in (6, 60):
            task = (ring_grammar(many), ("a", "x", "y", "ya", "xx"), book, "x" * 20, "behind")
            self.same((need(task, ()), needs(task, (1,))), (21, (21, 23, None, None, 24)))
            self.same(needs(task, (0,)), (19, 21, 21, 20, 22))

    def test_refuses(self):
        # Also where the grammar has no text.
        for task in (TASK, (NO_TEXTS,) + TASK[1:], (NEST, CUTS, FREE, "a", "healed")):
            self.refuses_all("NotUsable('row')", need, (task,), BAD_ROWS)
            self.refuses_all("NotUsable('row')", needs, (task,), BAD_ROWS)

