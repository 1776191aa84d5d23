"""[78], [87]: totals."""

import random
from math import comb

from stillends.listings import texts_upto
from stillends.tasks import is_good, letters_read
from stillends.totals import total
from stillends.treecounts import count_trees
from stillends.writers import state_behind
from tests.chances import (
    DOUBLE, DYCK, LEFT, LISTS, MODES, NO_TEXTS, PALINDROMES, REGULAR, beginning_of_good_row, known_tasks, rich_task,
    rich_writer, some_row, unlooped_grammar,
)
from tests.helpers import BAD_ROWS, BAD_SHORTS, CUTS, EVEN, FREE, FREE2, NEST, PAIRS, TASK, Case
from tests.plainly import rests_of, some_pairs
from tests.test_trees import ODD_ONES, RING

ONE = (1, (0,), ((0,),))


def total_by_rows(task, writer, row, left):
    """The total, row by row: the product of the weights, all later digits, and all trees."""
    found = 0
    for rest in rests_of(task, row, left):
        state = state_behind(task[1], writer, row)
        product = writer[0] ** (left - len(rest))
        for token in rest:
            product *= writer[1][state][token]
            state = writer[2][state][token]
        if product * writer[1][state][-1]:
            product *= count_trees(task[0], letters_read(task, row + rest))
        found += product * writer[1][state][-1]
    return found


class TotalTest(Case):
    def test_by_rows(self):
        chance = random.Random(78)
        positive = 0
        for _ in range(500):
            task = rich_task(chance, unlooped_grammar(chance), most=3)
            writer = rich_writer(chance, len(task[1]))
            row = beginning_of_good_row(chance, task, 3)
            left = chance.randint(0, 3)
            expected = total_by_rows(task, writer, row, left)
            self.same(total(task, writer, row, left), expected)
            positive += expected > 0
        self.assertGreater(positive, 80)

    def test_known_tasks(self):
        chance = random.Random(781)
        for task in known_tasks():
            writer = rich_writer(chance, len(task[1]))
            for row in ((), (0,), (1, 0)):
                self.same(total(task, writer, row, 3), total_by_rows(task, writer, row, 3))

    def test_it_is_how_many_good_pairs_there_are(self):
        chance = random.Random(782)
        for _ in range(150):
            task, writer, budget, pairs = some_pairs(chance, unlooped_grammar, 3)
            self.same(total(task, writer, (), budget), len(pairs))

    def test_sum(self):
        """[87]: a sum over the tokens, and over END if the row is good; multiplied writers."""
        chance = random.Random(783)
        for task in known_tasks((NEST, PAIRS, DYCK, LISTS, LEFT, PALINDROMES, DOUBLE)):
            writer = rich_writer(chance, len(task[1]))
            row = some_row(chance, task, 3)
            left = chance.randint(0, 8)
            weights = writer[1][state_behind(task[1], writer, row)]
            found = 0
            if left > 0:
                found += sum(weights[token] * total(task, writer, row + (token,), left - 1) for token in range(len(task[1])))
            if is_good(task, row):
                found += weights[-1] * writer[0] ** left * count_trees(task[0], letters_read(task, row))
            self.same(total(task, writer, row, left), found)
            times = (7 * writer[0], tuple(tuple(7 * weight for weight in some) for some in writer[1]), writer[2])
            self.same(total(task, times, row, left), 7 ** (left + 1) * found)

    def test_example(self):
        self.same([total(TASK, EVEN, row, 1) for row in ((), (0,), (1,))], [5, 1, 0])

    def test_edges(self):
        self.same(total(TASK, EVEN, (), 0), 1)
        self.same(total(TASK, EVEN, (0,) * 60, 60), 1)
        self.same(total(TASK, EVEN, (0,) * 60, 59), 0)
        self.same(total(TASK, (1, ((1, 0, 0, 0),), ((0, 0, 0),)), (), 60), 0)
        self.same(total((NO_TEXTS,) + TASK[1:], EVEN, (), 60), 0)
        self.same(total((NEST, CUTS, (1, (), ((0, 0, 0),)), "", "behind"), EVEN, (), 9), 0)
        for mode in MODES:
            self.same(total((NEST, CUTS, FREE, "b", mode), EVEN, (), 9), 0)
        self.same(total((NEST, CUTS, FREE, "a", "healed"), EVEN, (1,), 9), 0)
        self.same(total((ODD_ONES, ("a",), ONE, "", "behind"), (2, ((1, 1),), ((0,),)), (), 2), 4 + 2 + 1)

    def test_weights_of_the_row_do_not_count(self):
        writer = (3, ((0, 1, 0, 2), (1, 1, 1, 0)), ((1, 0, 0), (0, 0, 0)))
        self.same(total(TASK, writer, (0,), 1), 2)
        self.same(total(TASK, writer, (), 2), 2 * 9)

    def test_big_numbers(self):
        chance = 10**6
        writer = (chance, ((chance - 1, 1),), ((0,),))
        task = (REGULAR, ("a",), ONE, "", "behind")
        self.same(total(task, writer, (), 60), chance**61 - (chance - 1) ** 61)
        self.same(total(task, writer, (0,) * 60, 60), chance**61 - (chance - 1) ** 61)
        catalan = [comb(2 * k, k) // (k + 1) for k in range(60)]
        writer = (2, ((1, 1),), ((0,),))
        task = (DOUBLE, ("a",), ONE, "", "healed")
        self.same(total(task, writer, (), 60), sum(catalan[k - 1] * 2 ** (60 - k) for k in range(1, 61)))
        task = (DOUBLE, ("a",), ONE, "a" * 30, "behind")
        self.same(total(task, writer, (0,) * 10, 5), sum(catalan[39 + k] * 2 ** (5 - k) for k in range(6)))

    def test_rows_of_a_regular_grammar(self):
        """All rows are good, so all tapes that end."""
        tokens = tuple(f"{a}{b}" for a in "abcdefghijkl" for b in "0123456789")
        rules = tuple((0, (sign, 0)) for sign in sorted("abcdefghijkl0123456789")) + ((0, ()),)
        task = ((("s",), 0, rules), tokens, (1, (0,), ((0,) * 120,)), "a0" * 200, "behind")
        even = (121, ((1,) * 121,), ((0,) * 120,))
        self.same(total(task, even, (5,), 60), 121**61 - 120**61)
        states = (10**6, ((10**6 // 125,) * 120 + (10**6 // 25,),) * 12, tuple((k,) * 120 for k in range(12)))
        self.same(total(task, states, (), 60), 10**366 - (10**6 // 125 * 120) ** 61)
        # A ring of sixty states that takes rows whose number of tokens is a multiple of sixty.
        ring = (60, (0,), tuple(((state + 1) % 60,) * 120 for state in range(60)))
        self.same(total(task[:2] + (ring,) + task[3:], even, (), 60), 121**60 + 120**60)

    def test_deep_texts(self):
        # For each number of tokens there is one row, with the token ab in it if the number is odd.
        self.same(total(TASK, EVEN, (), 60), sum(4 ** (60 - k) for k in range(61)))
        task = (NEST, CUTS, FREE, "a" * 400, "behind")
        self.same(total(task, EVEN, (), 60), 0)
        task = (NEST, ("a", "b" * 10), FREE2, "a" * 400, "behind")
        self.same(total(task, (3, ((1, 1, 1),), ((0, 0),)), (), 60), 3**20 + 3**9)
        task = (LISTS, tuple("abcd"), (1, (0,), ((0,) * 4,)), "", "behind")
        even = (5, ((1,) * 5,), ((0,) * 4,))
        self.same(total(task, even, (), 9), sum(5 ** (9 - len(text)) for text in texts_upto(LISTS, 9)))

    def test_looped(self):
        self.refuses("Looped(0)", total, (RING,) + TASK[1:], EVEN, (1,), 2)
        looped = (("s", "t"), 0, ((0, ("a",)), (0, (1,)), (1, (1,)), (1, ("b",))))
        self.refuses("Looped(1)", total, (looped,) + TASK[1:], EVEN, (), 2)
        # A looped name has to be useful.
        self.same(total(((("s", "t"), 0, ((0, ()), (1, (1,)), (1, ()))),) + TASK[1:], EVEN, (), 2), 16)

    def test_refuses(self):
        self.refuses_all("NotUsable('row')", total, (TASK, EVEN), BAD_ROWS, (None,))
        self.refuses_all("NotUsable('left')", total, (TASK, EVEN, ()), BAD_SHORTS)
        self.refuses_all("NotUsable('left')", total, ((RING,) + TASK[1:], EVEN, ()), BAD_SHORTS)
