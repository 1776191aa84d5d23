"""[8], [12] (G3), [40], [45]: tables of floors, whether they hold, and cut ones."""

import random

from stillends.floors import cut_table, floor_holds
from stillends.meets import prices
from tests.definitions import all_items, holds_by_runs, some_machine
from tests.helpers import DEEP, NEST, ODD, Case
from tests.test_machines import ROAD
from tests.test_meets import some_pairs
from tests.test_trees import RING
from tests.test_usefulness import some_grammar

TABLE = prices(NEST, ROAD)
NO_TABLES = (
    None, True, 0, "", "ab", [], [(0, 0, 0, 0)], (0,), ((),), ((0, 0, 0),), ((0, 0, 0, 0, 0),), ([0, 0, 0, 0],),
    ((0, 0, 0, True),), ((0, 0, 0, None),), ((0, 0, 0, "0"),), ((0, 0, True, 0),), ((0, False, 0, 0),), ((None, 0, 0, 0),),
    ((-1, 0, 0, 0),), ((0, -1, 0, 0),), ((0, 0, -1, 0),), (("0", 0, 0, 0),), ((0, 0, 0, 0), (0, 0, 0, 0)),
    ((0, 0, 0, 0), (0, 0, 1, 0), (0, 0, 0, 1)), ((0, 0, [], 0),), ((0, 0, 0, [0]),), DEEP,
)


class FloorHoldsTest(Case):
    def test_by_runs(self):
        chance = random.Random(40)
        held = 0
        for grammar, machine in some_pairs(401, 250):
            table = {row[:3]: row[3] for row in prices(grammar, machine)}
            for _ in range(4):
                changed = dict(table)
                for item in all_items(grammar, machine):
                    if chance.random() < 0.1:
                        changed[item] = changed.get(item, 3) + chance.randint(-4, 1)
                    elif chance.random() < 0.02:
                        changed.pop(item, None)
                rows = [item + (least,) for item, least in changed.items()]
                chance.shuffle(rows)
                expected = holds_by_runs(grammar, machine, rows)
                self.same(floor_holds(grammar, machine, tuple(rows)), expected)
                held += expected
                if expected:
                    # What holds has each item that has a way, with at most its price.
                    self.assertTrue(all(item in changed and changed[item] <= table[item] for item in table))
        self.assertTrue(100 < held < 900)

    def test_any_sequence_and_items_without_ways(self):
        self.same(floor_holds(NEST, ROAD, TABLE), True)
        self.same(floor_holds(NEST, ROAD, TABLE[::-1]), True)
        self.same(floor_holds(NEST, ROAD, TABLE + ((1, 0, 0, 5),)), True)
        # An item without a way, and below its price, may make others cheaper that have one.
        machine = (2, ((0, "a", 1, 0), (1, "b", 0, 0)))
        self.same(floor_holds(NEST, machine, ((0, 0, 0, 0), (1, 0, 1, 0))), True)
        self.same(floor_holds(NEST, machine, ((0, 0, 0, 0), (1, 0, 1, -5))), False)
        self.same(floor_holds(NEST, machine, ((0, 0, 0, -5), (1, 0, 1, -5))), True)

    def test_lacking_items_and_floors_too_high(self):
        for k in range(len(TABLE)):
            self.same(floor_holds(NEST, ROAD, TABLE[:k] + TABLE[k + 1 :]), False)
            higher = TABLE[k][:3] + (TABLE[k][3] + 1,)
            self.same(floor_holds(NEST, ROAD, TABLE[:k] + (higher,) + TABLE[k + 1 :]), False)

    def test_negative_integers(self):
        self.same(floor_holds(NEST, (1, ()), ((0, 0, 0, -7),)), True)
        # With an arc by each letter a floor below 0 has to be below itself with both.
        free = (1, ((0, "a", 0, 0), (0, "b", 0, 0)))
        self.same(floor_holds(NEST, free, ((0, 0, 0, -7),)), True)
        self.same(floor_holds(RING, free, ((0, 0, 0, -7),)), False)
        self.same(floor_holds(RING, free, ((0, 0, 0, 0),)), True)

    def test_the_empty_table(self):
        self.same(floor_holds(NEST, ROAD, ()), False)
        self.same(floor_holds((("s",), 0, ()), ROAD, ()), True)
        self.same(floor_holds((("s",), 0, ((0, (0,)),)), ROAD, ()), True)
        self.same(floor_holds((("s",), 0, ((0, ("x",)),)), ROAD, ()), True)

    def test_useless_rules_count(self):
        grammar = (("s", "t"), 0, ((0, ("a",)), (1, ())))
        machine = (1, ((0, "a", 0, 2),))
        self.same(floor_holds(grammar, machine, ((0, 0, 0, 2),)), False)
        self.same(floor_holds(grammar, machine, ((0, 0, 0, 2), (0, 1, 0, 0))), True)

    def test_other_things(self):
        for thing in ODD + NO_TABLES:
            if thing != ():
                self.same(floor_holds((("s",), 0, ()), ROAD, thing), False)
        self.same(floor_holds((("s",), 0, ()), ROAD, ((2, 0, 0, 0),)), False)
        self.same(floor_holds((("s",), 0, ()), ROAD, ((0, 1, 0, 0),)), False)
        self.same(floor_holds((("s",), 0, ()), ROAD, ((0, 0, 2, 0),)), False)
        self.same(floor_holds((("s",), 0, ()), ROAD, ((1, 0, 1, 10**80), (0, 0, 0, -(10**80)))), True)

    def test_body_of_twelve(self):
        grammar = (("s", "t"), 0, ((0, (1,) * 12), (1, ("a",))))
        machine = (1, ((0, "a", 0, 5),))
        self.same(floor_holds(grammar, machine, ((0, 0, 0, 60), (0, 1, 0, 5))), True)
        self.same(floor_holds(grammar, machine, ((0, 0, 0, 61), (0, 1, 0, 5))), False)
        self.same(floor_holds(grammar, machine, ((0, 0, 0, 60), (0, 1, 0, 4))), False)

    def test_up_to_the_limits(self):
        arcs = tuple(sorted((k, letter, (k + j) % 400, 1) for k in range(400) for j in range(5) for letter in "ab"))
        table = prices(NEST, (400, arcs))
        self.same(len(table), 160000)
        self.same(floor_holds(NEST, (400, arcs), table), True)
        self.same(floor_holds(NEST, (400, arcs), table[:-1]), False)
        self.same(floor_holds(NEST, (400, arcs), table[:77777] + table[77778:]), False)


class CutTableTest(Case):
    def test_cut(self):
        self.same(cut_table(((0, 0, 1, 7), (0, 0, 0, -2)), 3), ((0, 0, 1, 3), (0, 0, 0, -2)))
        self.same(cut_table((), 0), ())
        self.same(cut_table(((9, 9, 9, 9),), 9), ((9, 9, 9, 9),))
        self.same(cut_table(((9, 9, 9, 10), (10**59, 0, 0, 10**59)), 0), ((9, 9, 9, 0), (10**59, 0, 0, 0)))
        self.same(cut_table(((0, 0, 0, 10**59),), 10**59 - 1), ((0, 0, 0, 10**59 - 1),))

    def test_what_holds_still_holds_when_cut(self):
        chance = random.Random(402)
        for _ in range(150):
            grammar, machine = some_grammar(chance), some_machine(chance)
            table = prices(grammar, machine)
            for most in range(4):
                cut = cut_table(table, most)
                self.same(cut, tuple(row[:3] + (min(row[3], most),) for row in table))
                self.same(floor_holds(grammar, machine, cut), True)

    def test_the_greater_ones_of_two_tables(self):
        chance = random.Random(403)
        for _ in range(150):
            grammar, machine = some_grammar(chance), some_machine(chance)
            held = []
            for _ in range(12):
                table = {row[:3]: row[3] - chance.choice((0, 0, 1)) for row in prices(grammar, machine)}
                for item in all_items(grammar, machine):
                    if item not in table and chance.random() < 0.2:
                        table[item] = chance.randint(-2, 3)
                if floor_holds(grammar, machine, tuple(item + (least,) for item, least in table.items())):
                    held.append(table)
            for first in held:
                for second in held:
                    both = tuple(item + (max(first[item], second[item]),) for item in first if item in second)
                    self.same(floor_holds(grammar, machine, both), True)

    def test_refuses(self):
        for thing in NO_TABLES + tuple(thing for thing in ODD if thing != ()):
            self.refuses("NotUsable('table')", cut_table, thing, 3)
            self.refuses("NotUsable('table')", cut_table, thing, None)
        for most in ODD + ("1", (), (1,), DEEP):
            self.refuses("NotUsable('most')", cut_table, ((0, 0, 1, 7),), most)
