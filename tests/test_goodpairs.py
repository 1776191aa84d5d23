"""[10], [77]: good pairs."""

import random

from stillends.goodpairs import is_good_pair
from stillends.trees import is_of_grammar
from tests.chances import DOUBLE, LEFT, NO_TEXTS, REGULAR, unlooped_grammar
from tests.helpers import BAD_SHORTS, CUTS, DEEP, EVEN, FREE, FREE2, NEST, ODD, PAIRS, TASK, Case
from tests.plainly import some_pairs
from tests.test_trees import RING

NO_PAIRS = ODD + (0, "", (), ((),), ((), ()), ((0, 0),), (0, 0), ((0,), (0,), (0,)), "ab", DEEP)


class IsGoodPairTest(Case):
    def test_just_the_good_pairs(self):
        chance = random.Random(77)
        found = []
        for _ in range(250):
            task, writer, budget, pairs = some_pairs(chance, unlooped_grammar, 2)
            for pair in pairs[:20]:
                self.same(is_good_pair(task, writer, budget, pair), True)
            for tape, tree in pairs[:5]:
                others = [(tape[:-1], tree), (tape + (0,), tree), (list(tape), tree), (tape, list(tree))]
                others += [(tape, tree, ()), [tape, tree]]
                for k in range(len(tape)):
                    others += [(tape[:k] + (digit,) + tape[k + 1 :], tree) for digit in (0, 1, writer[0], -1, True)]
                for k in range(len(tree)):
                    others.append((tape, tree[:k] + (chance.randrange(len(task[0][2])),) + tree[k + 1 :]))
                for other in others:
                    found.append(is_good_pair(task, writer, budget, other))
                    self.same(found[-1], repr(other) in [repr(pair) for pair in pairs])
        self.assertGreater(found.count(True), 100)
        self.assertGreater(found.count(False), 1000)

    def test_example(self):
        self.same(is_good_pair(TASK, EVEN, 1, ((2, 3), (1, 0))), True)
        self.same(is_good_pair(TASK, EVEN, 1, ((2, 0), (1, 0))), False)

    def test_any_values(self):
        wrong = (((3, 3), None), (None, (0,)), ((3, True), (0,)), ((3, 3), (False,)), ((3, 3), (7,)), ((3, 4), (0,)))
        for thing in NO_PAIRS + wrong:
            self.same(is_good_pair(TASK, EVEN, 1, thing), False)
        self.same(is_good_pair(TASK, EVEN, 1, ((3, 3), (0,))), True)
        self.same(is_good_pair(TASK, EVEN, 1, ((3, 3), (10**70,))), False)

    def test_edges(self):
        self.same(is_good_pair(TASK, EVEN, 0, ((3,), (0,))), True)
        self.same(is_good_pair(TASK, EVEN, 0, ((2,), (1, 0))), False)
        self.same(is_good_pair((NO_TEXTS,) + TASK[1:], EVEN, 0, ((3,), (0,))), False)
        self.same(is_good_pair((NEST, CUTS, FREE, "ab", "behind"), EVEN, 0, ((3,), (1, 0))), True)
        self.same(is_good_pair((NEST, CUTS, FREE, "ab", "healed"), EVEN, 0, ((3,), (0,))), False)
        self.same(is_good_pair((NEST, CUTS, FREE, "aa", "healed"), EVEN, 1, ((2, 3), (1, 0))), False)
        self.same(is_good_pair((NEST, CUTS, (2, (0,), ((1, 1, 1), (0, 0, 0))), "", "behind"), EVEN, 1, ((2, 3), (1, 0))), False)
        self.same(is_good_pair((PAIRS, CUTS, FREE, "", "behind"), EVEN, 1, ((0, 3), (0, 1, 2))), True)
        self.same(is_good_pair((PAIRS, CUTS, FREE, "", "behind"), EVEN, 1, ((0, 3), (2,))), False)

    def test_sixty_tokens(self):
        tape = (0,) * 30 + (1,) * 30 + (3,)
        tree = (1,) * 30 + (0,)
        self.same(is_good_pair(TASK, EVEN, 60, (tape, tree)), True)
        self.same(is_good_pair(TASK, EVEN, 60, (tape[:60] + (2,), tree)), False)
        self.same(is_good_pair(TASK, EVEN, 59, (tape, tree)), False)

    def test_long_texts(self):
        writer = (10**6, ((1, 10**6 - 1, 0), (0, 0, 10**6)), ((0, 1), (0, 0)))
        task = (REGULAR, ("a" * 12, "b"), FREE2, "ab" * 200, "behind")
        tree = (1, 2) * 200 + (1,) * 708 + (2, 0)
        self.same(is_good_pair(task, writer, 60, ((0,) * 59 + (10**6 - 1, 0), tree)), True)
        self.same(is_good_pair(task, writer, 60, ((0,) * 59 + (1, 10**6 - 1), tree)), True)
        self.same(is_good_pair(task, writer, 60, ((0,) * 59 + (1, 10**6), tree)), False)

    def test_sequence_of_errors(self):
        self.refuses_all("NotUsable('budget')", is_good_pair, (TASK, EVEN), BAD_SHORTS, (None,))
        self.refuses_all("NotUsable('budget')", is_good_pair, ((RING,) + TASK[1:], EVEN), BAD_SHORTS, (((3,), (0,)),))
        for thing in NO_PAIRS + (((3,), (0,)),):
            self.refuses("Looped(0)", is_good_pair, (RING,) + TASK[1:], EVEN, 0, thing)
        self.assertTrue(is_of_grammar(DOUBLE, (2, 0, 1)) and is_of_grammar(LEFT, (1, 0)))
