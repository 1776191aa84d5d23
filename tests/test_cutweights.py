"""[103], [105], (G13): cut runs."""

import random
from fractions import Fraction

from stillends.cutweights import cut_same, cut_share
from stillends.distances import distance
from stillends.masks import mask
from stillends.stepweights import step_weights
from stillends.tapes import tapes_of
from stillends.tasks import is_good
from stillends.writers import state_behind
from tests.chances import (
    LOST_TASKS, NO_TEXTS, REGULAR, known_tasks, rich_grammar, rich_task, rich_writer, some_row, unlooped_grammar,
)
from tests.helpers import BAD_ROWS, BAD_SHORTS, CUTS, EVEN, FREE, FREE2, NEST, TASK, Case, rows_upto
from tests.plainly import some_pairs
from tests.test_meankept import ratio
from tests.test_meanlengths import ENDLESS, SHORT
from tests.test_trees import RING

ONE = (1, (0,), ((0,),))
# Each letter a with the weight of what comes behind it: all of it is let.
LINE = (REGULAR, ("a",), ONE, "", "behind")


def cut_choices(task, writer, budget, row):
    """The cut choices at a row as a dict to their weights, by the mask."""
    tokens, may_end = mask(task, row, budget - len(row))
    weights = writer[1][state_behind(task[1], writer, row)]
    found = {choice: weights[choice] for choice in tokens + ((-1,) if may_end else ())}
    return {choice: weight for choice, weight in found.items() if weight}


def share_by_rows(task, writer, budget, row):
    """The share of a row in cut runs, choice by choice."""
    share = Fraction(1)
    for k in range(len(row) + 1):
        if k > budget:
            return (0, 1)
        choices = cut_choices(task, writer, budget, row[:k])
        choice = row[k] if k < len(row) else -1
        if choice not in choices:
            return (0, 1)
        share *= Fraction(choices[choice], sum(choices.values()))
    return ratio(share)


def cut_rows(task, writer, budget):
    """The rows each of whose tokens is a cut choice at the row before it, by length."""
    found, last = [], [()]
    while last:
        found.extend(last)
        last = [row + (c,) for row in last for c in sorted(cut_choices(task, writer, budget, row)) if c >= 0]
    return found


def same_by_rows(task, writer, budget):
    for row in cut_rows(task, writer, budget):
        weights = step_weights(task, writer, budget, row)
        shares = {Fraction(weights[c], weight) for c, weight in cut_choices(task, writer, budget, row).items()}
        if len(shares) > 1:
            return ("unlike", row)
    return ("same",)


class CutShareTest(Case):
    def test_by_rows(self):
        chance = random.Random(103)
        above = 0
        for _ in range(400):
            task = rich_task(chance, rich_grammar(chance), most=3)
            writer = rich_writer(chance, len(task[1]))
            row, budget = some_row(chance, task), chance.randint(0, 4)
            found = cut_share(task, writer, budget, row)
            self.same(found, share_by_rows(task, writer, budget, row))
            self.same(found[0] > 0, is_good(task, row) and tapes_of(task[1], writer, row, budget) > 0)
            above += found[0] > 0
        self.assertGreater(above, 30)

    def test_example_and_edges(self):
        self.same(cut_share(TASK, EVEN, 1, (2,)), (1, 2))
        self.same((cut_share(TASK, EVEN, 0, ()), cut_share(TASK, EVEN, 0, (2,)), cut_share(TASK, EVEN, 1, (0, 1))), ((1, 1), (0, 1), (0, 1)))
        self.same((cut_share(TASK, ENDLESS, 2, ()), cut_share(TASK, SHORT, 60, ())), ((0, 1), (1, 1)))
        for task in LOST_TASKS:
            self.same(cut_share(task, EVEN, 3, ()), (0, 1))

    def test_sums_of_shares(self):
        # With weights of END everywhere all cut runs end.
        chance = random.Random(1031)
        for _ in range(40):
            task = rich_task(chance, rich_grammar(chance), most=3)
            even = (len(task[1]) + 1, ((1,) * (len(task[1]) + 1),), ((0,) * len(task[1]),))
            shares = [Fraction(*cut_share(task, even, 3, row)) for row in rows_upto(len(task[1]), 3)]
            self.assertIn(sum(shares), (0, 1))

    def test_long_rows(self):
        third = (3, ((1, 2),), ((0,),))
        self.same(cut_share(LINE, third, 60, (0,) * 59), (2, 3**60))
        self.same(cut_share(LINE, third, 60, (0,) * 60), (1, 3**60))
        self.same(cut_share(LINE, third, 59, (0,) * 60), (0, 1))

    def test_looped_names_are_let_in(self):
        task = (RING,) + TASK[1:]
        for row in ((), (0,), (1,), (0, 0)):
            self.same(cut_share(task, EVEN, 2, row), share_by_rows(task, EVEN, 2, row))

    def test_errors(self):
        self.refuses_all("NotUsable('budget')", cut_share, (TASK, EVEN), BAD_SHORTS, (None,))
        self.refuses_all("NotUsable('row')", cut_share, (TASK, EVEN, 1), BAD_ROWS)


class CutSameTest(Case):
    def test_by_rows(self):
        chance = random.Random(1032)
        words = []
        for _ in range(200):
            task, writer, budget, pairs = some_pairs(chance, unlooped_grammar, 3)
            if pairs:
                found = cut_same(task, writer, budget)
                self.same(found, same_by_rows(task, writer, budget))
                self.same(found == ("same",), distance(task, writer, budget) == (0, 1))
                words.append(found[0])
            else:
                self.refuses("NoTape", cut_same, task, writer, budget)
        self.assertGreater(min(words.count("same"), words.count("unlike")), 10)

    def test_known_tasks(self):
        for task in known_tasks((NEST, REGULAR)):
            even = (len(task[1]) + 1, ((1,) * (len(task[1]) + 1),), ((0,) * len(task[1]),))
            if step_weights(task, even, 2, ()) != (0,) * (len(task[1]) + 1):
                self.same(cut_same(task, even, 2), same_by_rows(task, even, 2))

    def test_example_and_edges(self):
        self.same(cut_same(TASK, EVEN, 1), ("unlike", ()))
        self.same((cut_same(TASK, EVEN, 0), cut_same(TASK, SHORT, 60)), (("same",), ("same",)))
        # All rows of a up to 9 tokens; with the last token left END alone is let, so that one digit of two counts.
        self.same(cut_same(LINE, (2, ((1, 1),), ((0,),)), 9), ("unlike", ()))

    def test_runs_that_never_end(self):
        # Behind b no END has weight, but the mask lets b.
        task = (REGULAR, ("a", "b"), FREE2, "", "behind")
        writer = (3, ((1, 1, 1), (2, 1, 0)), ((0, 1), (1, 1)))
        self.same(cut_same(task, writer, 1), same_by_rows(task, writer, 1))
        self.same(cut_same(task, writer, 1), ("unlike", ()))
        # Alike at all rows: no END but behind the book's last state.
        task = (REGULAR, ("a", "b"), (3, (2,), ((1, 1), (2, 2), (-1, -1))), "", "behind")
        writer = (2, ((1, 1, 0), (1, 1, 0), (0, 0, 2)), ((1, 1), (2, 2), (2, 2)))
        self.same(cut_same(task, writer, 2), ("same",))

    def test_errors(self):
        self.refuses_all("NotUsable('budget')", cut_same, (TASK, EVEN), BAD_SHORTS)
        self.refuses_all("NotUsable('budget')", cut_same, ((RING,) + TASK[1:], EVEN), BAD_SHORTS)
        for writer in (EVEN, ENDLESS):
            self.refuses("Looped(0)", cut_same, (RING,) + TASK[1:], writer, 1)
        self.refuses("NoTape", cut_same, TASK, ENDLESS, 2)
        self.refuses("NoTape", cut_same, (NO_TEXTS,) + TASK[1:], EVEN, 2)
        self.refuses("NoTape", cut_same, (NEST, CUTS, FREE, "a", "behind"), EVEN, 0)
