"""[8], [12] (G3), [41], [45]: items that have ways, and closed lists."""

import random

from stillends.closedlists import closed_list, items_of
from stillends.meets import prices
from stillends.spellers import priced
from tests.definitions import all_items, closed_by_runs, runs_along, some_machine
from tests.helpers import CUTS, DEEP, FREE, NEST, ODD, Case
from tests.test_machines import ROAD
from tests.test_meets import big_machine, some_pairs
from tests.test_trees import ODD_ONES, RING
from tests.test_usefulness import some_grammar, useful_parts


class ItemsOfTest(Case):
    def test_those_with_prices(self):
        for grammar, machine in some_pairs(41, 250):
            self.same(items_of(grammar, machine), tuple(row[:3] for row in prices(grammar, machine)))

    def test_the_least_closed_items(self):
        chance = random.Random(411)
        for _ in range(100):
            grammar, machine = some_grammar(chance), some_machine(chance, 3)
            grown = {}
            while True:
                fresh = self.led_to(grammar, machine, grown) - set(grown)
                if not fresh:
                    break
                grown.update({item: 0 for item in fresh})
            self.same(items_of(grammar, machine), tuple(sorted(grown)))
            self.same(closed_by_runs(grammar, machine, set(grown)), True)

    def led_to(self, grammar, machine, items):
        return {
            (here, head, there)
            for head, body in grammar[2]
            for here in range(machine[0])
            for there, _ in runs_along(body, here, machine, items)
        }

    def test_edges(self):
        self.same(items_of(NEST, ROAD), ((0, 0, 0), (0, 0, 1), (1, 0, 1)))
        self.same(items_of(NEST, (1, ())), ((0, 0, 0),))
        self.same(items_of((("s",), 0, ()), ROAD), ())
        self.same(items_of((("s",), 0, ((0, (0,)),)), ROAD), ())
        self.same(items_of(ODD_ONES, (1, ())), ((0, 0, 0), (0, 3, 0)))

    def test_useless_rules_taken_out(self):
        chance = random.Random(412)
        for _ in range(150):
            grammar, machine = some_grammar(chance), some_machine(chance)
            names, start, rules = grammar
            useful = useful_parts(grammar)
            less = (names, start, tuple(rules[k] for k in useful[1]))
            kept = tuple(item for item in items_of(grammar, machine) if item[1] in useful[0])
            self.same(items_of(less, machine), kept)
            priced_kept = tuple(row for row in prices(grammar, machine) if row[1] in useful[0])
            self.same(prices(less, machine), priced_kept)

    def test_up_to_the_limits(self):
        machine = big_machine(5, "ab", 1000)
        found = items_of(NEST, machine)
        self.same(closed_list(NEST, machine, found), True)
        self.same(closed_list(NEST, machine, found[1:]), False)
        # Each state reaches each other one, by one a or more.
        ring = (400, tuple(sorted((k, "a", (k + j) % 400, 0) for k in range(400) for j in range(10))))
        self.same(len(items_of(RING, ring)), 160000)
        names = tuple(f"n{k}" for k in range(60))
        chain = (names, 0, tuple((k, (k + 1,) * 12 if k < 59 else ("a",)) for k in range(60)))
        one = (400, tuple((k, "a", (k + 1) % 400, 0) for k in range(400)))
        self.same(len(items_of(chain, one)), 24000)

    def test_names_that_derive_one_another_around(self):
        names = tuple(f"n{k}" for k in range(60))
        rules = tuple(rule for k in range(60) for rule in ((k, ((k + 1) % 60,)), (k, ((k + 1) % 60, "a"))))
        self.same(items_of((names, 0, rules), ROAD), ())
        found = items_of((names, 0, rules + ((59, ()),)), ROAD)
        self.same(found, tuple((p, k, p) for p in range(2) for k in range(60)))

    def test_a_machine_of_a_task(self):
        tokens = tuple("ab"[k % 2] * (k // 2 + 1) for k in range(20))
        machine = priced(tokens, (60, (0,), tuple(tuple((s + 1) % 60 for _ in tokens) for s in range(60))), "", "behind")
        self.assertGreater(machine[0], 1000)
        found = items_of((("s",), 0, ((0, tuple("aab")),)), machine)
        self.same(found, tuple(row[:3] for row in prices((("s",), 0, ((0, tuple("aab")),)), machine)))
        machine = priced(CUTS, FREE, "a" * 400, "behind")
        self.same(items_of(NEST, machine), tuple(row[:3] for row in prices(NEST, machine)))


class ClosedListTest(Case):
    def test_by_runs(self):
        chance = random.Random(413)
        closed = 0
        for grammar, machine in some_pairs(414, 300):
            found = items_of(grammar, machine)
            for _ in range(4):
                items = [item for item in found if chance.random() < 0.97]
                items += [item for item in all_items(grammar, machine) if item not in found and chance.random() < 0.1]
                chance.shuffle(items)
                expected = closed_by_runs(grammar, machine, set(items))
                self.same(closed_list(grammar, machine, tuple(items)), expected)
                closed += expected
                if expected:
                    self.assertTrue(set(found) <= set(items))
        self.assertTrue(100 < closed < 1100)

    def test_what_is_in_two_closed_lists(self):
        chance = random.Random(415)
        for _ in range(100):
            grammar, machine = some_grammar(chance), some_machine(chance)
            lists = []
            for _ in range(8):
                items = {item for item in all_items(grammar, machine) if chance.random() < 0.8}
                items |= set(items_of(grammar, machine))
                if closed_list(grammar, machine, tuple(items)):
                    lists.append(items)
            for first in lists:
                for second in lists:
                    self.same(closed_list(grammar, machine, tuple(first & second)), True)

    def test_the_empty_list(self):
        self.same(closed_list(NEST, ROAD, ()), False)
        self.same(closed_list((("s",), 0, ()), ROAD, ()), True)
        self.same(closed_list((("s",), 0, ((0, ("x",)),)), ROAD, ()), True)

    def test_useless_rules_count(self):
        grammar = (("s", "t"), 0, ((0, ("a",)), (1, ())))
        machine = (1, ((0, "a", 0, 2),))
        self.same(closed_list(grammar, machine, ((0, 0, 0),)), False)
        self.same(closed_list(grammar, machine, ((0, 1, 0), (0, 0, 0))), True)

    def test_other_things(self):
        empty = (("s",), 0, ())
        wrong = (
            None, True, 0, "", "ab", [], [(0, 0, 0)], (0,), ((),), ((0, 0),), ((0, 0, 0, 0),), ([0, 0, 0],), ((0, 0, True),),
            ((False, 0, 0),), ((0, None, 0),), ((0, 0, "0"),), ((2, 0, 0),), ((0, 1, 0),), ((0, 0, 2),), ((-1, 0, 0),),
            ((0, 0, 0), (0, 0, 0)), ((0, 0, 0), (1, 0, 1), (0, 0, 0)), ((0, 0, 10**80),), ((0, 0, [0]),), DEEP,
        )
        for thing in wrong + tuple(thing for thing in ODD if thing != ()):
            self.same(closed_list(empty, ROAD, thing), False)
        self.same(closed_list(empty, ROAD, ((1, 0, 0), (0, 0, 1))), True)

    def test_all_items_are_closed(self):
        for grammar, machine in some_pairs(416, 50):
            self.same(closed_list(grammar, machine, tuple(all_items(grammar, machine))), True)
