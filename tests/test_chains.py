"""[42], [45]: machines with a chain of letters ahead of a state."""

import random

from stillends.chains import chained
from stillends.closedlists import items_of
from stillends.machines import lets_machine, text_price
from stillends.meets import prices
from tests.definitions import some_machine, texts_by_sets
from tests.helpers import BAD_TEXTS, LONG_TEXT, NEST, Case, texts_over
from tests.test_machines import NO_STATES, ROAD
from tests.test_usefulness import some_grammar


class ChainedTest(Case):
    def test_new_states_and_arcs(self):
        self.same(chained((1, ((0, "a", 0, 1),)), 0, "ab"), ((3, ((0, "a", 0, 1), (1, "a", 2, 0), (2, "b", 0, 0))), 1))
        self.same(chained(ROAD, 1, "x"), ((3, ROAD[1] + ((2, "x", 1, 0),)), 2))
        self.same(chained((1, ()), 0, "a"), ((2, ((1, "a", 0, 0),)), 1))

    def test_the_empty_text(self):
        for state in range(2):
            self.same(chained(ROAD, state, ""), (ROAD, state))

    def test_items_and_prices(self):
        chance = random.Random(42)
        for _ in range(100):
            grammar, machine = some_grammar(chance), some_machine(chance, 3)
            state = chance.randrange(machine[0])
            text = chance.choice(texts_over("ab", 3))
            longer, first = chained(machine, state, text)
            self.same(lets_machine(longer), machine[0] + len(text))
            old = tuple(row for row in prices(grammar, longer) if row[0] < machine[0] and row[2] < machine[0])
            self.same(old, prices(grammar, machine))
            self.check_first(grammar, machine, state, text, (longer, first))

    def check_first(self, grammar, machine, state, text, told):
        """Items from the first state derive the text, and then what is read from the given state."""
        longer, first = told
        found = {row[:3]: row[3] for row in prices(grammar, longer)}
        for name, texts in enumerate(texts_by_sets(grammar, 5)):
            for q in range(machine[0]):
                rests = [other[len(text) :] for other in texts if other.startswith(text)]
                costs = [text_price(machine, state, q, rest) for rest in rests]
                costs = [cost for cost in costs if cost is not None]
                if costs and first >= machine[0]:
                    self.assertLessEqual(found[(first, name, q)], min(costs))
                for other in texts:
                    rest = other[len(text) :] if other.startswith(text) else None
                    cost = None if rest is None else text_price(machine, state, q, rest)
                    self.same(text_price(longer, first, q, other), cost)

    def test_long_texts(self):
        longer, first = chained(ROAD, 0, "a" * 600 + "b" * 600)
        self.same((lets_machine(longer), first), (1202, 2))
        self.same((2, 0, 0) in items_of(NEST, longer), True)
        self.same(text_price(longer, 2, 0, "a" * 600 + "b" * 600), 0)
        longer, first = chained(longer, first, "a" * 3)
        self.same((lets_machine(longer), first), (1205, 1202))
        self.same(text_price(longer, 1202, 2, "aaa"), 0)

    def test_refuses(self):
        self.refuses_all("NotUsable('state')", chained, (ROAD,), NO_STATES, ("a",))
        self.refuses_all("NotUsable('state')", chained, (ROAD,), NO_STATES, (None,))
        self.refuses_all("NotUsable('text')", chained, (ROAD, 0), BAD_TEXTS)
        self.refuses("NotUsable('text')", chained, ROAD, 1, LONG_TEXT)
