"""[111], [118], (G14): least machines of patterns."""

import random

from stillends.grammars import lets_grammar
from stillends.listings import texts_upto
from stillends.patternmachines import first_parted, pattern_grammar, pattern_machine
from stillends.patterns import lets_pattern, matches
from stillends.predicting import reads_one_way
from tests.helpers import Case, texts_over
from tests.test_patterns import A, B, some_pattern, texts_of

AB = ("any", ("a", "b"))
LETTERS = tuple(chr(code) for code in range(32, 127) if chr(code) != "%")


def rests_by_states(machine, most):
    """For each state the set of the texts of at most so many letters that lead from it to a final."""
    count, finals, arcs = machine
    found = [{""} if state in finals else set() for state in range(count)]
    for _ in range(most):
        found = [
            ({""} if state in finals else set()) | {letter + rest for here, letter, there in arcs if here == state for rest in found[there]}
            for state in range(count)
        ]
    return found


class PatternMachineTest(Case):
    def check(self, pattern, most=4):
        """The machine takes just the texts of the pattern, no two states do the same, and they are numbered in sequence."""
        count, finals, arcs = machine = pattern_machine(pattern)
        rests = rests_by_states(machine, most)
        self.same(sorted(text for text in rests[0] if len(text) <= most), sorted(texts_of(pattern, most)))
        longer = rests_by_states(machine, count + 1) if count < 6 else None
        if longer:
            self.assertTrue(all(longer))
            self.assertEqual(len({frozenset(rest) for rest in longer}), count)
        self.same((finals, arcs), (tuple(sorted(set(finals))), tuple(sorted(set(arcs)))))
        self.assertEqual(len({arc[:2] for arc in arcs}), len(arcs))
        met = [0]
        for state in met:
            met.extend(there for here, _, there in arcs if here == state and there not in met)
        self.same(list(dict.fromkeys(met)), list(range(count)))
        return machine

    def test_texts_and_states(self):
        chance = random.Random(111)
        sizes = [self.check(some_pattern(chance, 4))[0] for _ in range(250)]
        self.assertGreater(len(set(sizes)), 6)

    def test_example(self):
        pattern = ("plus", ("or", (("letter", "b"), ("row", (("letter", "a"), ("letter", "b"))))))
        self.same(pattern_machine(pattern), (3, (2,), ((0, "a", 1), (0, "b", 2), (1, "b", 2), (2, "a", 1), (2, "b", 2))))

    def test_small_ones(self):
        self.same(pattern_machine(("row", ())), (1, (0,), ()))
        self.same(pattern_machine(A), (2, (1,), ((0, "a", 1),)))
        self.same(pattern_machine(("star", AB)), (1, (0,), ((0, "a", 0), (0, "b", 0))))
        self.same(pattern_machine(("plus", A)), (2, (1,), ((0, "a", 1), (1, "a", 1))))
        self.same(pattern_machine(("any", LETTERS)), (2, (1,), tuple((0, letter, 1) for letter in LETTERS)))
        self.same(pattern_machine(("star", ("plus", ("maybe", A)))), (1, (0,), ((0, "a", 0),)))

    def test_equal_machines_exactly_for_equal_texts(self):
        same = (("plus", A), ("row", (A, ("star", A))), ("row", (("star", A), A)), ("or", (("plus", A), A)), ("plus", ("plus", A)))
        self.same(len({pattern_machine(pattern) for pattern in same}), 1)
        chance = random.Random(1111)
        for _ in range(200):
            one, two = some_pattern(chance, 3), some_pattern(chance, 3)
            parted = first_parted(one, two)
            self.same(parted is None, pattern_machine(one) == pattern_machine(two))
            if parted is not None:
                self.assertNotEqual(matches(one, parted), matches(two, parted))

    def test_two_hundred_states(self):
        # The seventh letter from the end is a; and rings of 13 and of 14 letters.
        self.same(pattern_machine(("row", (("star", AB), A) + (AB,) * 6))[0], 128)
        rings = ("or", (("star", ("row", (A,) * 13)), ("star", ("row", (A,) * 14))))
        self.same(pattern_machine(rings)[0], 182)
        self.same(pattern_machine(("row", (("maybe", ("any", LETTERS)),) * 19))[0], 20)

    def test_many_ways_that_come_to_the_same(self):
        # One part matches all texts, so what is matched by the other one does not count.
        hard = ("or", (("star", AB), ("row", (("star", AB), A) + (AB,) * 32)))
        self.same((lets_pattern(hard), pattern_machine(hard)), (39, (1, (0,), ((0, "a", 0), (0, "b", 0)))))
        parts = tuple(("any", LETTERS[k : k + 50]) for k in range(38))
        self.same(pattern_machine(("star", ("or", parts)))[0], 1)


class FirstPartedTest(Case):
    def test_the_first_by_length(self):
        chance = random.Random(1112)
        texts = texts_over(".ab", 4)
        for _ in range(250):
            one, two = some_pattern(chance, 4), some_pattern(chance, 4)
            found = first_parted(one, two)
            parted = [text for text in texts if (text in texts_of(one, 4)) != (text in texts_of(two, 4))]
            if parted:
                self.same(found, parted[0])
            else:
                self.assertTrue(found is None or len(found) > 4)
            self.same(first_parted(two, one), found)

    def test_example_and_edges(self):
        self.same(first_parted(("star", A), ("maybe", A)), "aa")
        self.same(first_parted(A, ("row", (A, ("row", ())))), None)
        self.same((first_parted(("row", ()), A), first_parted(A, B), first_parted(("star", A), ("plus", A))), ("", "a", ""))
        self.same(first_parted(("any", ("a", "c")), ("any", ("b", "c"))), "a")
        self.same(first_parted(other=("plus", A), pattern=("row", (A, A))), "a")

    def test_long_texts(self):
        ring = ("star", ("row", (A,) * 13))
        self.same(first_parted(ring, ("or", (ring, ("row", (A,) * 25)))), "a" * 25)
        rings = ("or", (ring, ("star", ("row", (A,) * 14))))
        self.same(first_parted(rings, ("row", (("maybe", ring), ("maybe", rings)))), "a" * 27)


class PatternGrammarTest(Case):
    def test_texts(self):
        chance = random.Random(1113)
        for _ in range(150):
            pattern = some_pattern(chance, 4)
            grammar = pattern_grammar(pattern)
            self.same(lets_grammar(grammar), len(grammar[2]))
            self.same(reads_one_way(grammar), True)
            self.same(sorted(texts_upto(grammar, 4)), sorted(texts_of(pattern, 4)))

    def test_names_and_rules_in_sequence(self):
        self.same(pattern_grammar(("plus", ("any", ("a", "b")))), (("q0", "q1"), 0, ((0, ("a", 1)), (0, ("b", 1)), (1, ()), (1, ("a", 1)), (1, ("b", 1)))))
        self.same(pattern_grammar(("row", ())), (("q0",), 0, ((0, ()),)))
        self.same(pattern_grammar(("star", A)), (("q0",), 0, ((0, ()), (0, ("a", 0)))))
        grammar = pattern_grammar(("row", (("star", AB), A) + (AB,) * 6))
        self.same((len(grammar[0]), grammar[0][-1], lets_grammar(grammar)), (128, "q127", 128 * 2 + 64))
