"""[6], [55], [56], (G5): customs."""

import random
from itertools import combinations, product

from stillends.faults import fault, lets_custom, mask_custom, safe_customs
from stillends.masks import mask
from stillends.needing import need
from stillends.orders import by_length
from tests.chances import NO_TEXTS, REGULAR, known_tasks, rich_grammar, rich_task
from tests.helpers import BAD_SHORTS, CUTS, DEEP, FREE, FREE2, LONE, NEST, ODD, TASK, Case, rows_upto
from tests.plainly import choices_of, fault_by_rows, mask_by_length
from tests.test_trees import RING


class LetsCustomTest(Case):
    def test_customs(self):
        self.same(lets_custom(CUTS, 2, ()), 0)
        self.same(lets_custom(CUTS, 0, (((), ()),)), 1)
        self.same(lets_custom(CUTS, 2, (((2, 1), (-1, 0, 1, 2)), ((), (-1,)), ((0,), (1,)))), 3)
        self.same(lets_custom(CUTS, 60, (((0,) * 60, (0,)),)), 1)

    def test_limits_do_not_count(self):
        rows = tuple((row, (0,)) for row in rows_upto(2, 9))
        self.same(lets_custom(LONE, 9, rows), 1023)

    def test_shape(self):
        for thing in ODD + ("", 0, DEEP):
            if not isinstance(thing, tuple):
                self.refuses("InvalidPaper('shape', -1)", lets_custom, CUTS, 2, thing)

    def test_row(self):
        wrong = (None, (), [], ((), ()) * 2, ((), []), ([], ()), ((), None), (0, ()), ((3,), ()), ((-1,), ()), ((True,), ()))
        for entry in wrong + (((0, 0, 0), ()), ((0,),), "ab", ("", ()), ((), (), ()), DEEP):
            self.refuses("InvalidPaper('row', 0)", lets_custom, CUTS, 2, (entry,))
            self.refuses("InvalidPaper('row', 1)", lets_custom, CUTS, 2, (((), ()), entry))
        self.refuses("InvalidPaper('row', 0)", lets_custom, CUTS, 0, (((0,), ()),))

    def test_choices(self):
        for choices in ((3,), (-2,), (0, 0), (1, 0), (0, -1), (True,), (None,), ("0",), ((),), (False, 1), (0, 1, 2, 3)):
            self.refuses("InvalidPaper('choices', 1)", lets_custom, CUTS, 2, (((), ()), ((0,), choices)))

    def test_twice(self):
        self.refuses("InvalidPaper('twice', 2)", lets_custom, CUTS, 2, (((), (0,)), ((0,), ()), ((), (1,))))

    def test_the_first_one_first(self):
        bad_row, bad_choices = ((3,), (7,)), ((), (7,))
        good = ((0,), ())
        self.refuses("InvalidPaper('row', 0)", lets_custom, CUTS, 2, (bad_row, bad_choices))
        self.refuses("InvalidPaper('choices', 0)", lets_custom, CUTS, 2, (bad_choices, bad_row, good, good))
        self.refuses("InvalidPaper('twice', 1)", lets_custom, CUTS, 2, (good, good, bad_row, bad_choices))
        self.refuses("InvalidPaper('choices', 1)", lets_custom, CUTS, 2, (good, ((0,), (7,))))

    def test_budget(self):
        self.refuses_all("NotUsable('budget')", lets_custom, (CUTS,), BAD_SHORTS, (None,))


class FaultTest(Case):
    def customs(self, chance, task, budget):
        """The mask as a custom, and others like it; perhaps rows that are not come to."""
        right = mask_by_length(task, budget)
        many = len(task[1])
        found = [dict(right)]
        for _ in range(6):
            changed = dict(right)
            for _ in range(chance.randint(1, 2)):
                row = chance.choice(list(changed) + rows_upto(many, budget)[:4])
                choices = set(changed.get(row, ()))
                changed[row] = tuple(sorted(choices ^ {chance.randint(-1, many - 1)}))
            if chance.random() < 0.3:
                changed.pop(chance.choice(list(changed)))
            found.append(changed)
        for custom in found:
            rows = list(custom)
            chance.shuffle(rows)
            yield tuple((row, custom[row]) for row in rows)

    def test_by_rows(self):
        chance = random.Random(55)
        words = []
        for _ in range(250):
            task = rich_task(chance, rich_grammar(chance), most=3)
            budget = chance.randint(0, 3)
            least = need(task, ())
            for custom in self.customs(chance, task, budget):
                if least is None or least > budget:
                    self.refuses("NoEnding", fault, task, budget, custom)
                else:
                    expected = fault_by_rows(task, budget, custom)
                    self.same(fault(task, budget, custom), expected)
                    words.append(expected and expected[0])
        for word in ("wrong", "stuck", "loses", None):
            self.assertGreater(words.count(word), 20, word)

    def test_guarantee(self):
        """(G5): no row is wrong or stuck exactly if the choices are some, not none, of those of the mask."""
        regular = (REGULAR, ("a",), (1, (0,), ((0,),)), "", "behind")
        for task, budget in ((TASK, 1), (regular, 2), ((NEST, CUTS, FREE, "a", "healed"), 1)):
            rows = rows_upto(len(task[1]), budget)[:4]
            options = [()] + [c for k in (1, 2, 3) for c in combinations(range(-1, len(task[1])), k)]
            for choices in product(options, repeat=min(len(rows), 2)):
                custom = tuple(zip(rows, choices)) + tuple((row, (-1,)) for row in rows[2:])
                told = fault(task, budget, custom)
                lets = dict(custom)
                come = []
                for row in rows_upto(len(task[1]), budget):
                    if all(row[k] in lets.get(row[:k], ()) for k in range(len(row))):
                        come.append(row)
                masks = {row: choices_of(mask(task, row, budget - len(row))) for row in come}
                fits = [set(lets.get(row, ())) <= set(masks[row]) for row in come]
                safe = all(fits) and all(lets.get(row, ()) for row in come)
                self.same(told is None or told[0] == "loses", safe)

    def test_example(self):
        self.same(fault(TASK, 1, (((), (0, 2)),)), ("stuck", (0,)))
        self.same(fault(TASK, 1, (((2,), (-1,)), ((), (2,)))), ("loses", ()))

    def test_edges(self):
        self.same(fault(TASK, 1, ()), ("stuck", ()))
        self.same(fault(TASK, 1, (((), ()),)), ("stuck", ()))
        self.same(fault(TASK, 0, (((), (-1, 0)),)), ("wrong", ()))
        self.same(fault(TASK, 0, (((), (-1,)),)), None)
        self.same(fault(TASK, 1, (((), (-1,)),)), ("loses", (2,)))
        # The stuck row (0,) comes ahead of the wrong row (2,), which is as long.
        self.same(fault(TASK, 1, (((), (0, 2)), ((2,), (2,)))), ("stuck", (0,)))
        self.same(fault(TASK, 1, (((), (0, 2)), ((2,), (2,)), ((0,), (-1,)))), ("wrong", (0,)))
        self.same(fault(TASK, 2, (((), (-1, 0, 2)), ((2,), (-1,)), ((0,), (1,)), ((0, 1), (-1,)))), None)
        # What is not come to does not count.
        self.same(fault(TASK, 1, (((), (-1, 2)), ((2,), (-1,)), ((1,), (0,)), ((0,), ()))), None)

    def test_long_rows(self):
        row = (0,) * 30 + (1,) * 30
        custom = tuple((row[:k], row[k : k + 1] or (-1,)) for k in range(61))
        self.same(fault(TASK, 60, custom), ("loses", ()))
        self.same(fault(TASK, 59, custom[:60]), ("wrong", row[:59]))
        self.same(fault((NEST, ("a", "b"), FREE2, "a", "healed"), 60, custom), ("loses", (0, 1)))
        first = tuple((pair[0], pair[1] + ((1,) if k < 30 and k > 0 else ())) for k, pair in enumerate(custom))
        self.same(fault((NEST, ("a", "b"), FREE2, "a", "healed"), 60, first), ("stuck", (0, 1)))
        custom = tuple(((0,) * k, (0,)) for k in range(399))
        self.same(fault((REGULAR, ("a", "b"), FREE2, "", "behind"), 60, custom[:61]), ("wrong", (0,) * 60))

    def test_the_first_lost_row(self):
        task = (REGULAR, ("a", "b"), FREE2, "", "behind")
        rows = rows_upto(2, 6)
        custom = tuple((row, (-1, 0, 1) if len(row) < 6 else (-1,)) for row in rows)
        self.same(fault(task, 6, custom), None)
        for lost in (rows[77], rows[50], rows[3]):
            if len(lost) < 6:
                less = tuple((row, choices[1:] if row == lost else choices) for row, choices in custom)
                self.same(fault(task, 6, less), ("loses", lost))
            kept = tuple((row, tuple(c for c in choices if row + (c,) != lost)) for row, choices in custom)
            self.same(fault(task, 6, kept), ("loses", lost))

    def test_four_hundred_rows_and_one_more(self):
        task = (REGULAR, ("a", "b"), FREE2, "", "behind")
        rows = rows_upto(2, 8)
        custom = tuple((row, (-1,)) for row in rows[:400])
        self.same(fault(task, 8, custom), ("loses", (0,)))
        self.refuses("NotUsable('custom')", fault, task, 8, custom + ((rows[400], (-1,)),))

    def test_no_ending(self):
        self.refuses("NoEnding", fault, (NO_TEXTS,) + TASK[1:], 3, ())
        self.refuses("NoEnding", fault, (NEST, CUTS, FREE, "aaa", "behind"), 2, ())
        self.refuses("NoEnding", mask_custom, (NEST, CUTS, FREE, "aaa", "behind"), 2)

    def test_refuses(self):
        self.refuses_all("NotUsable('budget')", fault, (TASK,), BAD_SHORTS, (None,))
        wrong = (0, "", ((),), (((0,), ()),), (((), (0, 0)),), DEEP)
        wrong += tuple(thing for thing in ODD if not isinstance(thing, tuple))
        self.refuses_all("NotUsable('custom')", fault, (TASK, 0), wrong)
        self.refuses_all("NotUsable('custom')", fault, ((NO_TEXTS,) + TASK[1:], 0), wrong)


class MaskCustomTest(Case):
    def test_by_ways(self):
        chance = random.Random(551)
        for task in [rich_task(chance, rich_grammar(chance), most=3) for _ in range(150)] + known_tasks():
            budget = chance.randint(0, 3)
            least = need(task, ())
            if least is None or least > budget:
                self.refuses("NoEnding", mask_custom, task, budget)
                continue
            found = mask_custom(task, budget)
            self.same(found, tuple(mask_by_length(task, budget).items()))
            self.same([row for row, _ in found], by_length(dict(found)))
            self.same(lets_custom(task[1], budget, found), len(found))
            self.same(fault(task, budget, found), None)

    def test_example(self):
        self.same(mask_custom(TASK, 1), (((), (-1, 2)), ((2,), (-1,))))
        self.same(mask_custom(TASK, 0), (((), (-1,)),))

    def test_thousands_of_rows(self):
        found = mask_custom((REGULAR, ("a", "b"), FREE2, "", "healed"), 10)
        self.same(len(found), 2047)
        self.same((found[0], found[1023][0], found[-1]), (((), (-1, 0, 1)), (0,) * 10, ((1,) * 10, (-1,))))
        found = mask_custom((NEST, ("a", "b"), FREE2, "", "behind"), 60)
        self.same(found[-1], ((0,) * 30 + (1,) * 30, (-1,)))
        # A row has some a, at most 30, and then at most as many b.
        self.same(len(found), sum(k + 1 for k in range(31)))

    def test_refuses(self):
        self.refuses_all("NotUsable('budget')", mask_custom, (TASK,), BAD_SHORTS)


class SafeCustomsTest(Case):
    def by_definition(self, task, budget):
        """Counts the customs, by going through all ways to let choices at the rows that are come to."""
        masks = mask_by_length(task, budget)

        def customs(rows):
            if not rows:
                return 1
            row, rest = rows[0], rows[1:]
            total = 0
            for k in range(1, len(masks[row]) + 1):
                for choices in combinations(masks[row], k):
                    total += customs(rest + [row + (c,) for c in choices if c != -1])
            return total

        return customs([()])

    def test_by_definition(self):
        chance = random.Random(552)
        met = set()
        for _ in range(400):
            task = rich_task(chance, rich_grammar(chance), most=2)
            budget = chance.randint(0, 2)
            expected = self.by_definition(task, budget)
            self.same(safe_customs(task, budget), expected)
            met.add(expected)
        self.assertGreater(len(met), 3)

    def test_each_is_safe(self):
        """All customs of a small task, by fault."""
        task = (REGULAR, ("a",), (1, (0,), ((0,),)), "", "behind")
        options = ((), (-1,), (0,), (-1, 0))
        safe = 0
        for many in range(4):
            for choices in product(options, repeat=many):
                custom = tuple(((0,) * k, choices[k]) for k in range(many))
                told = fault(task, 2, custom)
                come = all(0 in choices[k] for k in range(many - 1))
                safe += come and (told is None or told[0] == "loses")
        self.same(safe_customs(task, 2), safe)

    def test_example(self):
        self.same(safe_customs(TASK, 1), 3)
        self.same(safe_customs(TASK, 0), 1)

    def test_edges(self):
        self.same(safe_customs((NO_TEXTS,) + TASK[1:], 6), 0)
        self.same(safe_customs((NEST, CUTS, FREE, "aaa", "behind"), 2), 0)
        self.same(safe_customs((NEST, CUTS, FREE, "aaa", "behind"), 3), 1)
        self.same(safe_customs((RING,) + TASK[1:], 6), 2**7 - 1)
        count = 0
        for _ in range(7):
            count = 2 * (1 + count) ** 2 - 1 if count else 1
        self.same(safe_customs((REGULAR, ("a", "b"), FREE2, "", "behind"), 6), count)

    def test_many_tokens(self):
        tokens = tuple(f"{a}{b}" for a in "abcdefghijkl" for b in "0123456789")
        first = ("s", "t")
        rules = ((0, ()), (0, (1, "0", 0))) + tuple((1, (letter,)) for letter in "abcd")
        task = ((first, 0, rules), tokens, (1, (0,), ((0,) * 120,)), "", "behind")
        count = 1
        for _ in range(5):
            count = 2 * (1 + count) ** 4 - 1
        self.same(safe_customs(task, 5), count)

    def test_refuses(self):
        self.refuses_all("NotUsable('budget')", safe_customs, (TASK,), BAD_SHORTS + (7, 60))
