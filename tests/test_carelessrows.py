"""[93], [94], [98], (G11): careless writers."""

import random

from stillends.carelessrows import careless, careless_choices
from stillends.judges import judge
from stillends.lostrows import lost_within
from stillends.masks import mask, settled
from stillends.members import begins
from stillends.needing import need
from stillends.spellers import place_behind
from stillends.tasks import is_good, letters_read
from tests.chances import (
    DOUBLE, DYCK, LISTS, LOST_TASKS, NO_TEXTS, known_tasks, one_way_grammar, rich_grammar, rich_task, some_row,
)
from tests.helpers import BAD_ROWS, CUTS, FREE, FREE2, LONE, NEST, PAIRS, TASK, Case
from tests.plainly import choices_of
from tests.proofs import PlainPositions, takes_careless
from tests.test_setmachines import ONLY_A
from tests.test_trees import RING

LOW = (NEST, LONE, FREE2, "", "behind")
ONE = (1, (0,), ((0,),))


def choices_by_places(task, row):
    """The choices that a careless writer lets, by the definition."""
    grammar, tokens, book, begun, mode = task
    found = [-1] if is_good(task, row) else []
    for token in range(len(tokens)):
        longer = row + (token,)
        if place_behind(tokens, book, begun, mode, longer) is not None and begins(grammar, letters_read(task, longer)):
            found.append(token)
    return tuple(found)


def lost_by_rows(task, most):
    """The first lost careless row of at most so many tokens, row by row."""
    rows = [()]
    for _ in range(most + 1):
        for row in rows:
            if need(task, row) is None:
                return row
        rows = [row + (choice,) for row in rows for choice in choices_by_places(task, row) if choice >= 0]
    return None


class CarelessChoicesTest(Case):
    def test_by_definition(self):
        chance = random.Random(93)
        for _ in range(400):
            task = rich_task(chance, rich_grammar(chance), most=4)
            row = some_row(chance, task)
            self.same(careless_choices(task, row), choices_by_places(task, row))

    def test_known_tasks(self):
        for task in list(known_tasks()) + list(LOST_TASKS):
            for row in ((), (0,), (1, 0), (0, 0)):
                self.same(careless_choices(task, row), choices_by_places(task, row))

    def test_example(self):
        self.same((careless_choices(LOW, ()), careless_choices(LOW, (0,))), ((-1, 0, 1), (0, 1)))

    def test_rows_that_are_not_careless(self):
        self.same(careless_choices(TASK, (1,)), ())
        self.same(careless_choices(TASK, (2, 0)), ())
        # In "healed" the letters of begun are not read yet.
        self.same(careless_choices((NEST, CUTS, FREE, "ab", "healed"), ()), (0, 2))
        self.same(careless_choices((NEST, CUTS, FREE, "b", "healed"), ()), ())
        self.same(careless_choices((NEST, CUTS, FREE, "b", "behind"), ()), ())

    def test_long_rows(self):
        self.same(careless_choices(TASK, (0,) * 60), (0, 1, 2))
        self.same(careless_choices((NEST, CUTS, FREE, "a" * 200, "behind"), (1,) * 60), (1,))
        self.refuses_all("NotUsable('row')", careless_choices, (TASK,), BAD_ROWS)

    def test_any_grammar_is_let_in(self):
        self.same(careless_choices((RING,) + TASK[1:], (0,)), (-1, 0))
        self.same(careless_choices((DOUBLE,) + TASK[1:], ()), (0, 1, 2))
        self.same(careless_choices((NO_TEXTS,) + TASK[1:], ()), ())


class CarelessTest(Case):
    def check(self, task, most=3):
        """The answer as the rows tell it; it returns its first element, with how many tokens."""
        answer = careless(task)
        row = lost_by_rows(task, most)
        if answer[0] == "never":
            self.same(row, None)
        else:
            lost = answer[1]
            self.same(need(task, lost), None)
            self.assertTrue(all(lost[k] in choices_by_places(task, lost[:k]) for k in range(len(lost))))
            self.assertTrue(len(lost) > most if row is None else len(lost) == len(row))
        self.same(judge(task, "careless", answer), True)
        if len(repr(answer)) < 3000:
            self.same(takes_careless(task, answer, choices_by_places), True)
        self.same(careless(task), answer)
        return (answer[0], len(answer[1]) if answer[0] == "lost" else None)

    def test_by_rows(self):
        chance = random.Random(94)
        told = [self.check(rich_task(chance, one_way_grammar(chance), most=3)) for _ in range(300)]
        self.assertGreater(told.count(("never", None)), 40)
        self.assertGreater(len([word for word, many in told if word == "lost" and many]), 10)
        self.assertGreater(len({many for _, many in told}), 3)

    def test_known_tasks(self):
        for task in known_tasks((NEST, DYCK, LISTS, ONLY_A)):
            self.check(task)

    def test_example(self):
        self.same((careless(LOW)[:2], careless(TASK)[0]), (("lost", (0,)), "never"))

    def test_positions_by_definition(self):
        plain = PlainPositions(TASK)
        _, positions = careless(TASK)
        led = {there for position in positions for _, there in plain.moves(position)}
        self.same(sorted(led | set(plain.firsts())), sorted(positions))

    def test_no_good_row(self):
        for task in LOST_TASKS:
            self.same(careless(task), ("lost", (), ()))
        self.same(careless((NEST, ("b",), ONE, "a", "healed")), ("lost", (), ()))

    def test_lost_within_a_token_and_in_what_is_begun(self):
        # Behind a only ab goes on, but begun is not ended then.
        for begun in ("", "a", "aa", "aab"):
            for mode in ("behind", "healed"):
                self.check((NEST, LONE, FREE2, begun, mode))
        self.same(careless((NEST, ("a", "abb"), FREE2, "", "behind"))[:2], ("lost", (0, 0)))

    def test_lost_behind_names(self):
        # Behind t, of some tokens, d would end; but with b, that is let, c has to come, for which there is no token.
        plain = (("a", "b", "d"), (2, (1,), ((1, -1, -1), (1, 1, 1))), "", "behind")
        doubled = (("a", "b", "d", "aa"), (2, (1,), ((1, -1, -1, 1), (1, 1, 1, 1))), "", "behind")
        for letters, rest, many in ((1, plain, 2), (1, doubled, 2), (2, plain, 3), (2, doubled, 2), (3, plain, 4), (3, doubled, 3)):
            grammar = (("s", "t", "u"), 0, ((0, (1, 2)), (1, ("a",) * letters), (2, ("b", "c")), (2, ("d",))))
            answer = careless((grammar,) + rest)
            self.same((answer[0], len(answer[1]), need((grammar,) + rest, answer[1])), ("lost", many, None))
            self.same(self.check((grammar,) + rest, 4), ("lost", many))

    def test_names_without_ways(self):
        # No token holds c, so that t has no way from any place.
        grammar = (("s", "t"), 0, ((0, ("a", 1)), (0, ("d",)), (1, ("c",))))
        task = (grammar, ("a", "d"), FREE2, "", "behind")
        self.same((careless(task)[:2], self.check(task)), (("lost", (0,)), ("lost", 1)))

    def test_just_60_tokens_and_61(self):
        # Behind so many tokens only a is left, and the book ends nowhere.
        for many, found in ((59, ("lost", 60)), (60, None)):
            table = tuple((k + 1, k + 1 if k == many else -1) for k in range(many + 1)) + ((-1, -1),)
            book = (many + 2, tuple(range(many + 1)), table)
            task = (ONLY_A, ("a", "aa"), book, "", "behind")
            if found:
                answer = careless(task)
                self.same((answer[0], len(answer[1])), found)
                self.same(judge(task, "careless", answer), True)
            else:
                self.refuses("TooMuch('row')", careless, task)

    def test_too_many_positions(self):
        self.refuses("TooMuch('states')", careless, (DYCK, CUTS, FREE, "ab" * 200, "healed"))
        self.refuses("TooMuch('states')", careless, (NEST, CUTS, FREE, "a" * 400, "healed"))
        self.same(careless((NEST, CUTS, FREE, "a" * 200, "behind"))[0], "never")
        # No row is good, whatever there is to go through.
        self.same(careless((DYCK, CUTS, FREE, "ab" * 200 + "b", "healed")), ("lost", (), ()))

    def test_a_thousand_positions(self):
        self.same(positions_of((DYCK, ("a", "b"), FREE2, "a" * 249, "behind")), 1000)
        self.refuses("TooMuch('states')", careless, (DYCK, ("a", "b"), FREE2, "a" * 250, "behind"))
        # One more than 1,000.
        self.same(positions_of((NEST, CUTS, FREE, "a" * 247, "behind")), 997)
        self.refuses("TooMuch('states')", careless, (NEST, CUTS, FREE, "a" * 248, "behind"))

    def test_not_one_way(self):
        for grammar in (PAIRS, DOUBLE):
            with self.subTest(grammar=grammar):
                clash = "NotOneWay(1, 1, 2, 'a')" if grammar == PAIRS else "NotOneWay(0, 0, 2, 'a')"
                self.refuses(clash, careless, (grammar,) + TASK[1:])
                self.refuses(clash, careless, (grammar,) + LOST_TASKS[1][1:])


class ConsequencesTest(Case):
    def test_masks(self):
        chance = random.Random(98)
        for _ in range(100):
            task = rich_task(chance, one_way_grammar(chance), most=3)
            if need(task, ()) is None:
                self.same((lost_within(task, 0), lost_within(task, 3)), ((), ()))
                continue
            rows, alike = [()], True
            for _ in range(3):
                for row in rows:
                    alike = alike and careless_choices(task, row) == choices_of(mask(task, row, min(settled(task, row), 60)))
                rows = [row + (c,) for row in rows for c in careless_choices(task, row) if c >= 0]
            self.same(lost_within(task, 3) is None, alike)
            answer = careless(task)
            if answer[0] == "never":
                self.same(lost_within(task, 4), None)
            else:
                many = len(answer[1])
                for most in range(5):
                    row = lost_within(task, most)
                    self.same(None if row is None else len(row), many if most >= many else None)


def positions_of(task):
    return len(careless(task)[1])
