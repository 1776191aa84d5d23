"""[85], [86]: objects that tell of good pairs."""

import random

from stillends.firsttrees import own_tape
from stillends.meanlengths import mean_length
from stillends.pairnumbers import nth_pair, rank_pair
from stillends.steering import Steered
from stillends.stepweights import row_pairs, step_weights
from tests.chances import DOUBLE, LOST_TASKS, some_row, unlooped_grammar
from tests.helpers import BAD_ROWS, BAD_SHORTS, DEEP, EVEN, FREE2, NEST, ODD, TASK, Case
from tests.plainly import some_pairs
from tests.test_pairnumbers import ENDLESS, NO_NUMBERS, chain
from tests.test_trees import RING


class SteeredTest(Case):
    def test_as_the_functions(self):
        chance = random.Random(86)
        made = 0
        for _ in range(150):
            task, writer, budget, pairs = some_pairs(chance, unlooped_grammar, 3)
            if not pairs:
                self.refuses("NoTape", Steered, task, writer, budget)
                continue
            steered = Steered(task, writer, budget)
            made += 1
            # In any sequence, as each method goes to rows of its own.
            for _ in range(8):
                row = some_row(chance, task)
                self.same(steered.weights(row), step_weights(task, writer, budget, row))
                self.same(steered.row_pairs(row), row_pairs(task, writer, budget, row))
                k = chance.randrange(len(pairs))
                self.same(steered.nth(k), pairs[k])
                self.same(steered.nth(k), nth_pair(task, writer, budget, k))
                self.same(steered.own_tape(k), own_tape(task, writer, budget, k))
                self.same(steered.rank(*pairs[k]), k)
                tape, tree = pairs[k]
                other = tape[:-1] + (tape[-1] + 1,)
                self.same(steered.rank(other, tree), rank_pair(task, writer, budget, other, tree))
                self.same(steered.total(), len(pairs))
                self.same(steered.mean_length(), mean_length(task, writer, budget))
        self.assertGreater(made, 30)

    def test_example(self):
        steered = Steered(TASK, EVEN, 1)
        self.same((steered.total(), steered.weights(()), steered.nth(4)), (5, (0, 0, 1, 4), ((3, 3), (0,))))
        self.same((steered.row_pairs((2,)), steered.rank((3, 2), (0,)), steered.own_tape(0)), (1, 3, (2, 3)))
        self.same(steered.mean_length(), (1, 5))
        self.same((steered.weights((0, 1)), steered.row_pairs((0, 1))), ((0, 0, 0, 0), 0))

    def test_budgets_at_the_limit(self):
        self.same(Steered(TASK, EVEN, 0).nth(0), ((3,), (0,)))
        steered = Steered(TASK, EVEN, 60)
        last = steered.total() - 1
        self.same(steered.rank(*steered.nth(last)), last)
        self.refuses_all("NotUsable('k')", steered.nth, (), NO_NUMBERS + (last + 1,))

    def test_objects_are_apart(self):
        one, two = Steered(TASK, EVEN, 2), Steered(TASK, EVEN, 1)
        one.nth(0)
        self.same((two.total(), one.total()), (5, Steered(TASK, EVEN, 2).total()))

    def test_making_one(self):
        self.refuses_all("NotUsable('budget')", Steered, (TASK, EVEN), BAD_SHORTS)
        self.refuses_all("NotUsable('budget')", Steered, ((RING,) + TASK[1:], EVEN), BAD_SHORTS)
        self.refuses("Looped(0)", Steered, (RING,) + TASK[1:], EVEN, 1)
        self.refuses("Looped(0)", Steered, (RING,) + TASK[1:], ENDLESS, 1)
        self.refuses("NoTape", Steered, TASK, ENDLESS, 2)
        for task in LOST_TASKS:
            self.refuses("NoTape", Steered, task, EVEN, 3)

    def test_errors_of_the_methods(self):
        steered = Steered(TASK, EVEN, 1)
        self.refuses_all("NotUsable('row')", steered.weights, (), BAD_ROWS)
        self.refuses_all("NotUsable('row')", steered.row_pairs, (), BAD_ROWS)
        for k in NO_NUMBERS + (5, 10**59):
            self.refuses("NotUsable('k')", steered.nth, k)
            self.refuses("NotUsable('k')", steered.own_tape, k)
        for thing in ODD + ("", (), DEEP):
            self.same((steered.rank(thing, (0,)), steered.rank((3, 0), thing)), (None, None))
        self.same((steered.rank((3, 0), (0,)), steered.rank((3, 0), (1, 0)), steered.rank((0,), (0,))), (1, None, None))
        writer = (2, ((1, 1),), ((0,),))
        huge = Steered((chain(3, 12), ("aa",), (1, (0,), ((0,),)), "a" * 100, "healed"), writer, 51)
        self.refuses("TooMuch('tree')", huge.nth, 0)
        self.same(huge.own_tape(0), own_tape((chain(3, 12), ("aa",), (1, (0,), ((0,),)), "a" * 100, "healed"), writer, 51, 0))
        self.same(steered.total(), 5)

    def test_names_of_parameters(self):
        steered = Steered(task=(DOUBLE, ("a", "b"), FREE2, "", "behind"), writer=(3, ((1, 1, 1),), ((0, 0),)), budget=2)
        self.same(steered.weights(row=()), steered.weights(()))
        self.same(steered.row_pairs(row=(0,)), steered.row_pairs((0,)))
        self.same(steered.rank(tape=steered.nth(k=1)[0], tree=steered.nth(1)[1]), 1)
        self.same(steered.own_tape(k=1), steered.own_tape(1))
        self.same(Steered((NEST,) + TASK[1:], EVEN, 1).total(), 5)
