"""[81], [87]: each good tape once."""

import random

from stillends.firsttrees import own_tape
from stillends.pairnumbers import nth_pair
from stillends.treenumbers import rank_tree
from stillends.totals import total
from tests.chances import DOUBLE, NO_TEXTS, known_tasks, rich_writer, unlooped_grammar
from tests.helpers import BAD_SHORTS, EVEN, FREE2, NEST, PAIRS, TASK, Case
from tests.plainly import good_pairs, some_pairs
from tests.test_pairnumbers import ENDLESS, NO_NUMBERS, chain
from tests.test_trees import RING

TWICE = (("s", "x"), 0, ((0, ("a",)), (0, (1,)), (1, ("a",))))
ONE = (TWICE, ("a",), (1, (0,), ((0,),)), "", "behind")


class OwnTapeTest(Case):
    def test_each_tape_once(self):
        chance = random.Random(81)
        several = 0
        cases = [some_pairs(chance, unlooped_grammar, 2) for _ in range(60)]
        for task in known_tasks((NEST, PAIRS, DOUBLE)):
            writer = rich_writer(chance, len(task[1]))
            cases.append((task, writer, 2, good_pairs(task, writer, 2)))
        for task, writer, budget, pairs in cases:
            step = 1 + len(pairs) // 40
            found = [own_tape(task, writer, budget, k) for k in range(0, len(pairs), step)]
            expected = [tape if rank_tree(task[0], tree) == 0 else None for tape, tree in pairs[::step]]
            self.same(found, expected)
            if step == 1:
                self.same([tape for tape in found if tape is not None], sorted({tape for tape, _ in pairs}))
            several += None in found
        self.assertGreater(several, 10)

    def test_example(self):
        writer = (2, ((1, 1),), ((0,),))
        self.same((own_tape(ONE, writer, 1, 0), own_tape(ONE, writer, 1, 1)), ((0, 1), None))
        self.refuses("NotUsable('k')", own_tape, ONE, writer, 1, 2)

    def test_no_tree_is_too_large(self):
        task = (chain(3, 12), ("aa",), (1, (0,), ((0,),)), "a" * 100, "healed")
        writer = (2, ((1, 1),), ((0,),))
        self.same(own_tape(task, writer, 51, 0), (0,) * 51 + (1,))
        self.refuses("TooMuch('tree')", nth_pair, task, writer, 51, 0)

    def test_big_numbers(self):
        task = (DOUBLE, ("a", "b"), FREE2, "", "behind")
        writer = (3, ((1, 1, 1),), ((0, 0),))
        pairs = total(task, writer, (), 30)
        self.same(own_tape(task, writer, 30, 0), (0,) * 30 + (2,))
        self.same(own_tape(task, writer, 30, 1), None)
        self.same(own_tape(task, writer, 30, pairs - 1), (1, 2) + (2,) * 29)

    def test_sequence_of_errors(self):
        self.refuses_all("NotUsable('budget')", own_tape, (TASK, EVEN), BAD_SHORTS, (None,))
        for value in NO_NUMBERS:
            self.refuses("NotUsable('k')", own_tape, TASK, EVEN, 1, value)
            self.refuses("NotUsable('k')", own_tape, (RING,) + TASK[1:], EVEN, 1, value)
        self.refuses("Looped(0)", own_tape, (RING,) + TASK[1:], EVEN, 1, 0)
        self.refuses("NoTape", own_tape, TASK, ENDLESS, 2, 10**59)
        self.refuses("NoTape", own_tape, (NO_TEXTS,) + TASK[1:], EVEN, 2, 0)
        self.refuses("NotUsable('k')", own_tape, TASK, EVEN, 1, 5)
