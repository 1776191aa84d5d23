"""[10], [44], [45]: sums over the trees and ways of items, weighed by a writer."""

import random
from functools import lru_cache
from math import comb

from stillends.insides import inside
from stillends.nulls import first_looped
from stillends.spellers import speller
from stillends.treecounts import count_trees
from stillends.writers import lets_writer
from tests.definitions import some_unlooped
from tests.helpers import BAD_SHORTS, CUTS, EVEN, FREE, NEST, PAIRS, TASK, Case
from tests.test_spellers import some_case
from tests.test_trees import ODD_ONES, RING
from tests.test_usefulness import useful_parts


def some_writer(chance, many):
    """A writer for so many tokens by chance; some of its weights are 0."""
    count = chance.randint(1, 3)
    total = chance.randint(1, 5)
    weights = []
    for _ in range(count):
        cuts = sorted(chance.randint(0, total) for _ in range(many))
        weights.append(tuple(b - a for a, b in zip([0] + cuts, cuts + [total])))
    return (total, tuple(weights), tuple(tuple(chance.randrange(count) for _ in range(many)) for _ in range(count)))


def ways_from(arcs, writer, point, most):
    """All ways from a place and a state, as (text, place, state, finished tokens, product of the weights)."""
    found = [("",) + point + (0, 1)]
    for text, place, state, many, product in found:
        for here, letter, there, token in arcs:
            if here == place and token == -1:
                found.append((text + letter, there, state, many, product))
            elif here == place and many < most:
                share = product * writer[1][state][token]
                found.append((text + letter, there, writer[2][state][token], many + 1, share))
    return found


def inside_by_ways(task, writer, most):
    """What inside has to tell, way by way."""
    (names, _, rules), tokens, book, begun, mode = task
    places, _, arcs = speller(tokens, book, begun, mode)
    useful = useful_parts(task[0])[0]

    @lru_cache(None)
    def trees(name, text):
        return count_trees((names, name, rules), text)

    sums = {}
    for place in range(len(places)):
        for state in range(len(writer[1])):
            for text, there, other, many, product in ways_from(arcs, writer, (place, state), most):
                for name in useful:
                    item = (place, state, name, there, other, many)
                    sums[item] = sums.get(item, 0) + product * trees(name, text)
    return tuple(sorted(item + (total,) for item, total in sums.items() if total > 0))


class InsideTest(Case):
    def test_by_ways(self):
        chance = random.Random(44)
        told = 0
        for _ in range(300):
            grammar = some_unlooped(chance)
            tokens, book, begun = some_case(chance)
            mode = chance.choice(("behind", "healed"))
            task = (grammar, tokens, book, begun, mode)
            writer = some_writer(chance, len(tokens))
            self.same(lets_writer(tokens, writer), len(writer[1]))
            most = chance.randint(0, 2)
            found = inside(task, writer, most)
            self.same(found, inside_by_ways(task, writer, most))
            told += len(found)
        self.assertGreater(told, 1500)

    def test_known_grammars(self):
        chance = random.Random(441)
        rows = (("s", "t"), 0, ((0, (1, 1)), (1, ("a", 1)), (1, ())))
        for grammar in (NEST, PAIRS, rows, (("s",), 0, ((0, ("a",)), (0, (0, 0))))):
            for begun, mode in (("", "behind"), ("a", "behind"), ("ab", "healed"), ("aa", "healed")):
                task = (grammar, CUTS, FREE, begun, mode)
                writer = some_writer(chance, 3)
                for most in range(4):
                    self.same(inside(task, writer, most), inside_by_ways(task, writer, most))

    def test_example(self):
        expected = ((0, 0, 0, 0, 0, 0, 1), (0, 0, 0, 0, 0, 1, 1), (0, 0, 0, 0, 0, 2, 1), (1, 0, 0, 1, 0, 0, 1))
        self.same(inside(TASK, EVEN, 2), expected)
        self.same(inside(TASK, EVEN, 0), ((0, 0, 0, 0, 0, 0, 1), (1, 0, 0, 1, 0, 0, 1)))

    def test_weights_and_states(self):
        # In state 0 token a weighs 2 and leads to state 1; there it weighs 3 and leads back.
        writer = (5, ((2, 1, 2), (3, 0, 2)), ((1, 0), (0, 1)))
        task = ((("s",), 0, ((0, ("a", "a")), (0, ("a", "b")), (0, ("b",)))), ("a", "b"), (1, (0,), ((0, 0),)), "", "healed")
        self.same(
            inside(task, writer, 60),
            ((0, 0, 0, 0, 0, 1, 1), (0, 0, 0, 0, 0, 2, 6), (0, 1, 0, 0, 0, 2, 3), (0, 1, 0, 0, 1, 2, 6)),
        )

    def test_trees_and_ways_multiply(self):
        # Two trees for a, and it is the token 0 alone; four for aa, by two rows of it.
        task = (PAIRS, ("a", "aa"), (1, (0,), ((0, 0),)), "", "behind")
        writer = (10, ((3, 5, 2),), ((0, 0),))
        at_start = [row for row in inside(task, writer, 60) if row[0] == row[3] == 0 and row[2] == 0]
        self.same(at_start, [(0, 0, 0, 0, 0, 0, 1), (0, 0, 0, 0, 0, 1, 2 * 3 + 5), (0, 0, 0, 0, 0, 2, 9)])

    def test_useless_names_do_not_count(self):
        task = (ODD_ONES, ("a", "c"), (1, (0,), ((0, 0),)), "", "behind")
        found = inside(task, (3, ((1, 1, 1),), ((0, 0),)), 3)
        self.same({row[2] for row in found}, {0})
        self.same(inside(((("s",), 0, ()),) + task[1:], (3, ((1, 1, 1),), ((0, 0),)), 3), ())
        self.same(inside(((("s", "t"), 0, ((1, ()),)),) + task[1:], (3, ((1, 1, 1),), ((0, 0),)), 3), ())

    def test_useless_rules_taken_out(self):
        chance = random.Random(442)
        for _ in range(60):
            grammar = some_unlooped(chance)
            less = (grammar[0], grammar[1], tuple(grammar[2][k] for k in useful_parts(grammar)[1]))
            tokens, book, begun = some_case(chance)
            writer = some_writer(chance, len(tokens))
            rest = (tokens, book, begun, "healed")
            self.same(inside((less,) + rest, writer, 2), inside((grammar,) + rest, writer, 2))

    def test_big_numbers(self):
        both = (("s",), 0, ((0, ("a",)), (0, (0, 0))))
        task = (both, ("a",), (1, (0,), ((0,),)), "", "behind")
        found = inside(task, (2, ((1, 1),), ((0,),)), 60)
        catalan = [comb(2 * k, k) // (k + 1) for k in range(60)]
        self.same(found, tuple((0, 0, 0, 0, 0, k + 1, catalan[k]) for k in range(60)))
        found = inside(task, (10**6, ((10**6, 0),), ((0,),)), 60)
        self.same(found[-1], (0, 0, 0, 0, 0, 60, catalan[59] * 10**360))

    def test_up_to_the_limits(self):
        # 400 letters begun, and sixty tokens more.
        task = (NEST, CUTS, FREE, "a" * 400, "behind")
        found = inside(task, EVEN, 60)
        self.same(len([row for row in found if row[0] == 400 and row[3] == 400]), 61)
        self.assertIn((350, 0, 0, 400, 0, 50, 1), [row for row in found if row[0] == 350])
        names = tuple(f"n{k}" for k in range(60))
        chain = (names, 0, tuple((k, (k + 1,) if k < 59 else ("a",)) for k in range(60)))
        found = inside((chain,) + task[1:], EVEN, 1)
        self.same(len(found), 60 * 402)

    def test_looped(self):
        self.refuses("Looped(0)", inside, (RING,) + TASK[1:], EVEN, 2)
        self.refuses("Looped(1)", inside, ((("s", "t"), 0, ((0, (1,)), (1, (1,)), (1, ()))),) + TASK[1:], EVEN, 2)
        self.same(first_looped(NEST), None)

    def test_refuses(self):
        self.refuses_all("NotUsable('most')", inside, (TASK, EVEN), BAD_SHORTS)
        self.refuses_all("NotUsable('most')", inside, ((RING,) + TASK[1:], EVEN), BAD_SHORTS)
