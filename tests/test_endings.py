"""[49], [56]: endings with trees."""

import random

from stillends.endings import ending
from stillends.needing import need
from stillends.tasks import is_good, letters_read
from stillends.trees import is_of_grammar
from stillends.treetexts import tree_text
from tests.chances import (
    DOUBLE, LEFT, LISTS, NO_TEXTS, PALINDROMES, REGULAR, known_tasks, rich_grammar, rich_task, ring_grammar,
    some_row,
)
from tests.helpers import BAD_ROWS, CUTS, FREE, FREE2, NEST, TASK, Case
from tests.plainly import least_three_of, need_by_ways, rests_of
from tests.test_trees import RING, trees_of


class EndingTest(Case):
    def check(self, task, row):
        """It ends the row, with a tree; returns how many tokens, letters, rules it has."""
        told = ending(task, row)
        self.same(told is None, need_by_ways(task, row) is None)
        if told is None:
            return None
        rest, tree = told
        self.assertTrue(is_good(task, row + rest))
        self.assertTrue(is_of_grammar(task[0], tree))
        self.same(tree_text(task[0], tree), letters_read(task, row + rest))
        self.same(len(rest), need(task, row))
        return (len(rest), len(tree_text(task[0], tree)), len(tree))

    def test_no_other_ending_is_less(self):
        """Beside all endings of few tokens, and all trees of few rules."""
        chance = random.Random(49)
        compared = 0
        for _ in range(500):
            task = rich_task(chance, rich_grammar(chance), most=3)
            row = some_row(chance, task, 2)
            size = self.check(task, row)
            if size is not None and size[0] <= 4 and size[2] <= 6:
                texts = {letters_read(task, row + rest): len(rest) for rest in rests_of(task, row, size[0])}
                trees = [(tree_text(task[0], tree), len(tree)) for tree in trees_of(task[0], task[0][1], size[2])]
                sizes = [(texts[text], len(text), rules) for text, rules in trees if text in texts]
                self.same(size, min(sizes))
                compared += 1
        self.assertGreater(compared, 80)

    def test_by_threes(self):
        """The least three of the chained machine."""
        chance = random.Random(491)
        tasks = [rich_task(chance, rich_grammar(chance)) for _ in range(700)] + known_tasks()
        for task in tasks:
            row = some_row(chance, task, 2)
            self.same(self.check(task, row), least_three_of(task, row))

    def test_example(self):
        self.same(ending(TASK, (0, 0)), ((1, 1), (1, 1, 0)))
        self.same(ending(TASK, (0, 1)), ((), (1, 0)))
        self.same(ending(TASK, (1,)), None)

    def test_lost(self):
        for task in ((NO_TEXTS,) + TASK[1:], (NEST, CUTS, (1, (), ((0, 0, 0),)), "", "behind")):
            self.same(ending(task, ()), None)
        self.same(ending((NEST, CUTS, FREE, "ab", "healed"), (0, 0)), None)
        self.same(ending((NEST, CUTS, FREE, "b", "behind"), ()), None)

    def test_fewest_tokens_then_letters_then_rules(self):
        # One token ends it by three letters, two by fewer; of those with one, fewer letters, then fewer rules.
        grammar = (("s", "t"), 0, ((0, ("a", "b", "b", "b")), (0, ("b", "a")), (0, (1,)), (0, ("a", 1)), (1, ("b",))))
        tokens = ("a", "abbb", "ab", "b")
        task = (grammar, tokens, (1, (0,), ((0,) * 4,)), "", "behind")
        self.same(ending(task, ()), ((3,), (2, 4)))
        self.same(ending(task, (0,)), ((3,), (3, 4)))
        self.same(ending(task[:3] + ("ab", "healed"), ()), ((2,), (3, 4)))
        self.same(ending(task[:3] + ("abb", "healed"), ()), ((1,), (0,)))

    def test_looped_names(self):
        self.same(ending((RING,) + TASK[1:], ()), ((), (0,)))
        self.same(ending((RING,) + TASK[1:], (0,)), ((), (1,)))

    def test_sixty_tokens_and_one_more(self):
        row = (0,) * 60
        rest, tree = ending(TASK, row)
        self.same((rest, tree), ((1,) * 60, (1,) * 60 + (0,)))
        self.refuses("TooMuch('row')", ending, (NEST, CUTS, FREE, "a", "behind"), row)
        self.refuses("TooMuch('row')", ending, (NEST, CUTS, FREE, "a" * 400, "behind"), ())
        self.refuses("TooMuch('row')", ending, (NEST, CUTS, FREE, "a" * 31, "healed"), ())
        self.same(len(ending((NEST, CUTS, FREE, "a" * 30, "healed"), ())[0]), 59)

    def test_four_thousand_rules_and_one_more(self):
        def chain(times, below):
            """For each letter a: one rule, and so many times one and those below it; and one for the end."""
            rules = ((0, ()), (0, ("a",) + (1,) * times + (0,)), (1, (2,) * below), (2, ()))
            return (("s", "t", "u"), 0, rules)

        tokens = ("a" * 12, "a")
        self.same(len(ending((chain(6, 6), tokens, FREE2, "a" * 93, "behind"), ())[1]), 93 * 43 + 1)
        self.same(len(ending((chain(6, 6), ("aaa",), (1, (0,), ((0,),)), "a" * 93, "healed"), ())[1]), 4000)
        # Eight tokens of twelve letters are fewer than those that spell just what is begun.
        self.refuses("TooMuch('tree')", ending, (chain(6, 6), tokens, FREE2, "a" * 93, "healed"), ())
        self.same(len(ending((chain(6, 6), tokens, FREE2, "a" * 81, "behind"), (0,))[1]), 4000)
        self.refuses("TooMuch('tree')", ending, (chain(3, 12), tokens, FREE2, "a" * 100, "behind"), ())
        self.refuses("TooMuch('tree')", ending, (chain(3, 12), tokens, FREE2, "a" * 100, "healed"), ())

    def test_rows_come_ahead_of_trees(self):
        names = tuple(f"n{k}" for k in range(60))
        rules = tuple((k, (k + 1,) * 12 if k < 59 else ("a",)) for k in range(60))
        self.refuses("TooMuch('row')", ending, ((names, 0, rules), ("a", "aa"), FREE2, "", "behind"), ())
        empty = rules[:59] + ((59, ()),)
        self.refuses("TooMuch('tree')", ending, ((names, 0, empty), ("a", "aa"), FREE2, "", "behind"), ())
        self.same(ending(((names, 0, ((0, ("a",)),) + empty), ("a", "aa"), FREE2, "", "behind"), (0,)), ((), (0,)))

    def test_up_to_the_limits(self):
        for grammar in (REGULAR, LEFT, PALINDROMES):
            task = (grammar, ("a", "b"), FREE2, "a" * 400, "behind")
            rest, tree = ending(task, (0,) * 60)
            self.same((rest, tree_text(grammar, tree)), ((), "a" * 460))
        rest, tree = ending((DOUBLE, ("a", "b"), FREE2, "ab" * 20, "behind"), (1,) * 20)
        self.same((rest, len(tree)), ((), 119))
        lists = (LISTS, tuple("abcd") + ("cc", "ba"), (1, (0,), ((0,) * 6,)), "b" * 100 + "a", "behind")
        self.same(ending(lists, ())[0], (4,) * 50)

    def test_long_texts(self):
        for grammar, rules in ((REGULAR, 1121), (LEFT, 1121), (PALINDROMES, 561)):
            rest, tree = ending((grammar, ("a" * 12, "b"), FREE2, "a" * 400, "behind"), (0,) * 60)
            self.same((rest, tree_text(grammar, tree), len(tree)), ((), "a" * 1120, rules))

    def test_names_that_all_lead_to_one_another(self):
        task = (ring_grammar(60), ("a", "x", "y", "ya", "xx"), (1, (0,), ((0,) * 5,)), "x" * 12, "behind")
        for row, fewest in (((), 13), ((1,), 14), ((4,), 15), ((0,), 12)):
            rest, tree = ending(task, row)
            self.same((len(rest), need(task, row)), (fewest, fewest))
            self.assertTrue(is_of_grammar(task[0], tree))
            self.same(tree_text(task[0], tree), letters_read(task, row + rest))

    def test_refuses(self):
        self.refuses_all("NotUsable('row')", ending, (TASK,), BAD_ROWS)
