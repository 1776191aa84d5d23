"""[80], [87], (G8): good pairs by number."""

import random
from math import comb

from stillends.goodpairs import is_good_pair
from stillends.pairnumbers import nth_pair, rank_pair
from stillends.tapes import says
from stillends.totals import total
from stillends.treetexts import tree_text
from tests.chances import DOUBLE, NO_TEXTS, REGULAR, known_tasks, rich_writer, unlooped_grammar
from tests.helpers import BAD_SHORTS, CUTS, DEEP, EVEN, FREE, FREE2, NEST, ODD, PAIRS, TASK, Case
from tests.plainly import good_pairs, some_pairs
from tests.test_trees import RING

ONE = (1, (0,), ((0,),))


def chain(times, below):
    """A grammar of some a: for each of them one rule, and so many times one and those below it; and one for the end."""
    return (("s", "t", "u"), 0, ((0, ()), (0, ("a",) + (1,) * times + (0,)), (1, (2,) * below), (2, ())))


NO_NUMBERS = ODD + ("", "0", (), (0,), DEEP)
ENDLESS = (1, ((1, 0, 0, 0),), ((0, 0, 0),))


class NthPairTest(Case):
    def test_all_good_pairs_in_sequence(self):
        chance = random.Random(80)
        several = 0
        for _ in range(200):
            task, writer, budget, pairs = some_pairs(chance, unlooped_grammar, 3)
            self.same(pairs, tuple(sorted(pairs)))
            if not pairs:
                self.refuses("NoTape", nth_pair, task, writer, budget, 0)
            for k in sorted({0, 1, len(pairs) // 2, len(pairs) - 1, *chance.choices(range(len(pairs) + 1), k=4)}):
                if 0 <= k < len(pairs):
                    self.same(nth_pair(task, writer, budget, k), pairs[k])
                    self.same(rank_pair(task, writer, budget, *pairs[k]), k)
                elif pairs and k > 0:
                    self.refuses("NotUsable('k')", nth_pair, task, writer, budget, k)
            several += len(pairs) > 5
        self.assertGreater(several, 30)

    def test_known_tasks(self):
        chance = random.Random(801)
        for task in known_tasks((NEST, PAIRS, DOUBLE)):
            writer = rich_writer(chance, len(task[1]))
            pairs = good_pairs(task, writer, 2)
            found = [nth_pair(task, writer, 2, k) for k in range(0, len(pairs), 5)]
            self.same(tuple(found), pairs[::5])
            self.same([rank_pair(task, writer, 2, *pair) for pair in found], list(range(0, len(pairs), 5)))

    def test_example(self):
        self.same((nth_pair(TASK, EVEN, 1, 0), rank_pair(TASK, EVEN, 1, (3, 2), (0,))), (((2, 3), (1, 0)), 3))
        self.refuses("NotUsable('k')", nth_pair, TASK, EVEN, 1, 5)
        self.same(nth_pair(TASK, EVEN, 1, 4), ((3, 3), (0,)))

    def test_there_and_back_in_big_numbers(self):
        chance = random.Random(802)
        nest = (NEST, CUTS, FREE, "a" * 10, "behind")
        million = (10**6, ((3, 10**6 - 4, 1), (10**6 - 9, 2, 7)), ((0, 1), (1, 0)))
        free = (REGULAR, ("a", "b"), FREE2, "ab" * 200, "behind")
        ambiguous = (DOUBLE, ("a", "b"), FREE2, "a", "healed")
        for task, writer, budget in ((nest, EVEN, 60), (free, million, 9), (ambiguous, (3, ((1, 1, 1),), ((0, 0),)), 30)):
            pairs = total(task, writer, (), budget)
            for k in [0, pairs - 1, pairs // 2, pairs // 3] + [chance.randrange(pairs) for _ in range(8)]:
                tape, tree = nth_pair(task, writer, budget, k)
                self.same(is_good_pair(task, writer, budget, (tape, tree)), True)
                self.same(rank_pair(task, writer, budget, tape, tree), k)
            self.refuses("NotUsable('k')", nth_pair, task, writer, budget, pairs)
        first, last = nth_pair(free, million, 60, 0), nth_pair(free, million, 60, total(free, million, (), 60) - 1)
        self.same((first[0], last[0]), ((0,) * 60 + (999999,), (999999,) * 61))

    def test_trees_of_one_tape(self):
        catalan = comb(24, 12) // 13
        task = (DOUBLE, ("a",), ONE, "a" * 13, "healed")
        writer = (2, ((1, 1),), ((0,),))
        self.same(total(task, writer, (), 13), catalan)
        trees = [nth_pair(task, writer, 13, k)[1] for k in range(0, catalan, 1999)]
        self.same(trees, sorted(trees))
        self.same({tree_text(DOUBLE, tree) for tree in trees}, {"a" * 13})

    def test_later_digits_are_free(self):
        self.same([nth_pair(TASK, EVEN, 2, k)[0] for k in (5, 6, 20)], [(3, 0, 0), (3, 0, 1), (3, 3, 3)])
        self.same(says(CUTS, EVEN, (3, 0, 1)), ((), True, 1))
        self.same([rank_pair(TASK, EVEN, 2, tape, (0,)) for tape in ((3, 0, 0), (3, 3, 3))], [5, 20])

    def test_too_much(self):
        # Of 4,000 rules, and of 4,001.
        writer = (2, ((1, 1),), ((0,),))
        tape, tree = nth_pair((chain(6, 6), ("aaa",), ONE, "a" * 93, "healed"), writer, 31, 0)
        self.same((tape, len(tree), tree[:9]), ((0,) * 31 + (1,), 4000, (1, 2) + (3,) * 6 + (2,)))
        task = (chain(3, 12), ("aa",), ONE, "a" * 100, "healed")
        self.same(total(task, writer, (), 51), 3)
        for k in (0, 1):
            self.refuses("TooMuch('tree')", nth_pair, task, writer, 51, k)
        # The empty row alone would do, but for the rules of its tree.
        names = tuple(f"n{k}" for k in range(60))
        rules = tuple((k, (k + 1,) * 12 if k < 59 else ()) for k in range(60))
        task = ((names, 0, rules), ("a",), ONE, "", "behind")
        self.same(total(task, writer, (), 3), 8)
        self.refuses("TooMuch('tree')", nth_pair, task, writer, 3, 7)

    def test_sequence_of_errors(self):
        self.refuses_all("NotUsable('budget')", nth_pair, (TASK, EVEN), BAD_SHORTS, (None,))
        for value in NO_NUMBERS:
            self.refuses("NotUsable('k')", nth_pair, TASK, EVEN, 1, value)
            self.refuses("NotUsable('k')", nth_pair, (RING,) + TASK[1:], EVEN, 1, value)
            self.refuses("NotUsable('k')", nth_pair, (NO_TEXTS,) + TASK[1:], EVEN, 1, value)
        self.refuses("Looped(0)", nth_pair, (RING,) + TASK[1:], EVEN, 1, 10**59)
        self.refuses("Looped(0)", nth_pair, (RING,) + TASK[1:], ENDLESS, 1, 0)
        for k in (0, 5, 10**59):
            self.refuses("NoTape", nth_pair, TASK, ENDLESS, 2, k)
            self.refuses("NoTape", nth_pair, (NO_TEXTS,) + TASK[1:], EVEN, 60, k)
        self.refuses("NotUsable('k')", nth_pair, TASK, EVEN, 1, 10**59)


class RankPairTest(Case):
    def test_none_for_what_is_no_good_pair(self):
        for tape in ODD + (0, "", (), (3,), (3, 4), (2, 2), (3, True), (2, 0), DEEP):
            self.same(rank_pair(TASK, EVEN, 1, tape, (0,)), None)
        for tree in ODD + (0, "", (), (1,), (1, 0), (7,), (False,), DEEP):
            self.same(rank_pair(TASK, EVEN, 1, (3, 0), tree), None)
        self.same(rank_pair((NO_TEXTS,) + TASK[1:], EVEN, 1, (3, 0), (0,)), None)
        self.same(rank_pair(TASK, ENDLESS, 1, (0, 0), (0,)), None)
        self.same(rank_pair((NEST, CUTS, FREE, "aa", "healed"), EVEN, 1, (2, 3), (1, 0)), None)

    def test_sequence_of_errors(self):
        self.refuses_all("NotUsable('budget')", rank_pair, (TASK, EVEN), BAD_SHORTS, (None, None))
        self.refuses_all("NotUsable('budget')", rank_pair, ((RING,) + TASK[1:], EVEN), BAD_SHORTS, ((3, 0), (0,)))
        for tape, tree in (((3, 0), (0,)), (None, None), ((), ())):
            self.refuses("Looped(0)", rank_pair, (RING,) + TASK[1:], EVEN, 1, tape, tree)
