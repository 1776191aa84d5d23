"""[51], [56]: tables that show why a row is refused."""

import random

from stillends.chains import chained
from stillends.floors import floor_holds
from stillends.needing import need
from stillends.refusals import judge_why_not, why_not
from stillends.spellers import place_behind, priced, speller
from stillends.tasks import letters_read
from tests.chances import NO_TEXTS, REGULAR, known_tasks, rich_grammar, rich_task, some_row
from tests.definitions import holds_by_runs
from tests.helpers import BAD_ROWS, BAD_SHORTS, CUTS, DEEP, FREE, FREE2, NEST, ODD, TASK, Case

NO_TABLES = ODD + (0, "", "table", ((),), (1,), ((0, 0, 0),), ((0, 0, 0, "1"),), ((True, 0, 0, 1),), DEEP)


def shows(task, row, left, table):
    """Whether the table shows it, as [51] states it."""
    grammar, tokens, book, begun, mode = task
    place = place_behind(tokens, book, begun, mode, row)
    if place is None:
        return table == ()
    places, finals, _ = speller(tokens, book, begun, mode)
    machine, first = chained(priced(tokens, book, begun, mode), places.index(place), letters_read(task, row))
    barred = any((p, name) == (first, grammar[1]) and q in finals and least <= left for p, name, q, least in table)
    inner = all(p < machine[0] and q < machine[0] for p, _, q, _ in table)
    return inner and not barred and holds_by_runs(grammar, machine, table)


class WhyNotTest(Case):
    def test_it_shows(self):
        chance = random.Random(51)
        told = 0
        for _ in range(300):
            task = rich_task(chance, rich_grammar(chance), most=3)
            row = some_row(chance, task, 2)
            left = chance.randint(0, 3)
            table = why_not(task, row, left)
            number = need(task, row)
            self.same(table is None, number is not None and number <= left)
            if table is not None:
                self.assertTrue(shows(task, row, left, table))
                self.assertTrue(judge_why_not(task, row, left, table))
                self.assertTrue(all(item[3] <= left + 1 for item in table))
                told += bool(table)
        self.assertGreater(told, 100)

    def test_known_tasks(self):
        for task in known_tasks():
            for row in ((), (0,), (1, 0)):
                for left in (0, 1, 60):
                    table = why_not(task, row, left)
                    number = need(task, row)
                    self.same(table is None, number is not None and number <= left)
                    if table is not None:
                        self.same(judge_why_not(task, row, left, table), True)
                        self.assertTrue(max([item[3] for item in table], default=0) <= left + 1)

    def test_example(self):
        self.same(why_not(TASK, (0,), 1), None)
        self.same(judge_why_not(TASK, (0,), 0, why_not(TASK, (0,), 0)), True)
        self.same(why_not((NEST, CUTS, FREE, "a", "healed"), (1,), 3), ())

    def test_sixty_tokens(self):
        row = (0,) * 60
        self.same(why_not(TASK, row, 60), None)
        table = why_not(TASK, row, 59)
        self.same((judge_why_not(TASK, row, 59, table), judge_why_not(TASK, row, 60, table)), (True, False))
        for begun in ("", "a" * 400):
            task = (NEST, ("a" * 12, "b"), FREE2, begun, "behind")
            self.same(judge_why_not(task, row, 60, why_not(task, row, 60)), True)

    def test_refuses(self):
        for value in BAD_ROWS:
            self.refuses("NotUsable('row')", why_not, TASK, value, None)
            self.refuses("NotUsable('row')", judge_why_not, TASK, value, None, ())
        for value in BAD_SHORTS:
            self.refuses("NotUsable('left')", why_not, TASK, (), value)
            self.refuses("NotUsable('left')", judge_why_not, TASK, (), value, None)


class JudgeWhyNotTest(Case):
    def test_just_what_shows_it(self):
        """Tables that are told for other rows, or with an integer or an item changed, show it or not."""
        chance = random.Random(511)
        found = []
        for _ in range(200):
            task = rich_task(chance, rich_grammar(chance), most=3)
            rows = [some_row(chance, task, 1) for _ in range(2)]
            left = chance.randint(0, 2)
            table = why_not(task, rows[0], left)
            if table:
                changed = list(table)
                at = chance.randrange(len(table))
                changed[at] = changed[at][:3] + (changed[at][3] + chance.choice((-2, -1, 1)),)
                less = table[:at] + table[at + 1 :]
                for row, other in ((rows[0], tuple(changed)), (rows[0], less), (rows[1], table), (rows[0], table[::-1])):
                    for number in (left, left + 1):
                        expected = shows(task, row, number, other)
                        self.same(judge_why_not(task, row, number, other), expected)
                        found.append(expected)
        self.assertGreater(found.count(True), 100)
        self.assertGreater(found.count(False), 300)

    def test_without_a_place_just_the_empty_table_shows_it(self):
        task = (NEST, CUTS, FREE, "a", "healed")
        self.same(judge_why_not(task, (1,), 3, ()), True)
        for table in NO_TABLES[3:] + (((0, 0, 0, 5),),):
            self.same(judge_why_not(task, (1,), 3, table), table == () and isinstance(table, tuple))

    def test_any_values(self):
        for table in NO_TABLES + ((),):
            self.same(judge_why_not(TASK, (0,), 0, table), False)

    def test_without_items_the_empty_table_shows_it(self):
        task = ((("s",), 0, ((0, (0, "a")),)),) + TASK[1:]
        self.same((why_not(task, (), 60), judge_why_not(task, (), 60, ())), ((), True))
        self.same(why_not((NO_TEXTS,) + TASK[1:], (), 60), ())

    def test_states_and_names_have_to_be_there(self):
        task = ((("s",), 0, ()), ("a",), (1, (0,), ((0,),)), "", "behind")
        self.same(judge_why_not(task, (), 3, ((0, 0, 0, 4),)), True)
        self.same(judge_why_not(task, (), 3, ((0, 0, 0, 3),)), False)
        self.same(judge_why_not(task, (), 3, ((0, 0, 0, -(10**70)),)), False)
        self.same(judge_why_not(task, (), 3, ((0, 1, 0, 4),)), False)
        self.same(judge_why_not(task, (), 3, ((1, 0, 0, 4),)), False)
        self.same(judge_why_not(task, (), 3, ((0, 0, 0, 4), (0, 0, 0, 5))), False)

    def test_useless_rules_count(self):
        grammar = (("s", "t"), 0, ((0, ("b",)), (1, ())))
        task = (grammar, ("a", "b"), FREE2, "", "behind")
        table = why_not(task, (0,), 2)
        self.same(judge_why_not(task, (0,), 2, table), True)
        self.same(judge_why_not(task, (0,), 2, tuple(item for item in table if item[1] == 0)), False)

    def test_up_to_the_limits(self):
        task = (NEST, ("a" * 12, "b"), FREE2, "a" * 400, "behind")
        row = (0,) * 60
        table = why_not(task, row, 60)
        self.same((judge_why_not(task, row, 60, table), judge_why_not(task, row, 60, table[1:])), (True, False))
        task = (REGULAR, ("a", "b"), FREE2, "ab" * 50 + "c", "behind")
        self.same(judge_why_not(task, (0, 1), 60, why_not(task, (0, 1), 60)), True)
        machine = chained(priced(*task[1:]), 0, "ab")[0]
        self.same(floor_holds(REGULAR, machine, ()), False)
