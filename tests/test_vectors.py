"""[68], [76]: vectors of stands."""

import random

from stillends.machines import text_price
from stillends.needing import need
from stillends.spellers import place_behind, priced, speller
from stillends.stands import stand_behind
from stillends.tasks import letters_read
from stillends.usefulness import useful_parts
from stillends.vectors import stand_vector
from tests.chances import (
    DOUBLE, KNOWN, LEFT, NO_TEXTS, PALINDROMES, known_tasks, one_way_grammar, rich_grammar, rich_task, some_row,
)
from tests.definitions import threes_by_growing
from tests.helpers import CUTS, FREE, FREE2, NEST, TASK, Case
from tests.test_stands import BAD_STANDS
from tests.test_trees import ODD_ONES, RING


def vector_by_items(task, stand):
    """The vector, from the last symbol on, by the prices of items and arcs, as [76] tells."""
    _, tokens, book, begun, mode = task
    places, finals, _ = speller(tokens, book, begun, mode)
    machine = priced(tokens, book, begun, mode)
    threes = threes_by_growing(task[0], machine)
    rest = [0 if place in finals else None for place in range(len(places))]
    for symbol in stand[::-1]:
        if isinstance(symbol, str):
            steps = [(p, q, price) for p, letter, q, price in machine[1] if letter == symbol]
        else:
            steps = [(p, q, three[0]) for (p, name, q), three in threes.items() if name == symbol]
        sums = [[] for _ in places]
        for p, q, price in steps:
            if rest[q] is not None:
                sums[p].append(price + rest[q])
        rest = [min(some, default=None) for some in sums]
    return tuple(rest)


class StandVectorTest(Case):
    def test_by_items(self):
        chance = random.Random(68)
        numbers = 0
        for _ in range(250):
            task = rich_task(chance, rich_grammar(chance), most=3)
            symbols = list(useful_parts(task[0])[0]) * 2 + ["a", "b", "z"]
            for _ in range(3):
                stand = tuple(chance.choice(symbols) for _ in range(chance.randint(0, 3)))
                found = stand_vector(task, stand)
                self.same(found, vector_by_items(task, stand))
                numbers += sum(number is not None and number > 0 for number in found)
        self.assertGreater(numbers, 200)

    def test_by_texts(self):
        """Of a stand that derives few texts: the least price of a way that reads one of them."""
        chance = random.Random(681)
        for task in known_tasks([grammar for grammar in KNOWN if grammar not in (DOUBLE, LEFT)]):
            machine = priced(*task[1:])
            finals = speller(*task[1:])[1]
            stand = tuple(chance.choice("ab") for _ in range(chance.randint(0, 4)))
            text = "".join(stand)
            for place, found in enumerate(stand_vector(task, stand)):
                prices = [text_price(machine, place, final, text) for final in finals]
                self.same(found, min((price for price in prices if price is not None), default=None))

    def test_it_is_the_need(self):
        """The need of a row is the element of its place for the stand behind the letters read."""
        chance = random.Random(682)
        for _ in range(150):
            task = rich_task(chance, one_way_grammar(chance))
            row = some_row(chance, task, 2)
            place = place_behind(*task[1:], row)
            stand = stand_behind(task[0], letters_read(task, row))
            if place is None or stand is None:
                self.same(need(task, row), None)
            else:
                number = speller(*task[1:])[0].index(place)
                self.same(need(task, row), stand_vector(task, stand)[number])

    def test_edges(self):
        self.same((stand_vector(TASK, (0,)), stand_vector(TASK, (0, "b"))), ((0, None), (1, 1)))
        self.same(stand_vector(TASK, ()), (0, None))
        self.same(stand_vector((NEST, CUTS, (1, (), ((0, 0, 0),)), "", "behind"), (0,)), (None, None))
        self.same(stand_vector((NO_TEXTS,) + TASK[1:], ("a", "b")), (1, None))
        self.same(stand_vector((NEST, CUTS, FREE, "ab", "behind"), ()), (None, None, 0, None))
        self.same(stand_vector((NEST, CUTS, FREE, "ab", "behind"), ("a", "b")), (0, None, 1, None))
        self.same(stand_vector((NEST, CUTS, FREE, "ab", "healed"), (0,)), (1, None, None, 0, None))

    def test_any_grammar(self):
        for grammar in (RING, DOUBLE, PALINDROMES, LEFT, ODD_ONES):
            task = (grammar, ("a", "aa", "ab"), FREE, "a", "healed")
            self.same(stand_vector(task, (0, "a")), vector_by_items(task, (0, "a")))

    def test_long_stands_and_numbers_of_any_size(self):
        self.same(stand_vector(TASK, ("a",) * 3000 + (0,) * 3000), (3000, None))
        self.same(stand_vector((NEST, CUTS, FREE, "", "healed"), ("a", "b") * 1500), (1500, None))
        names = tuple(f"n{k}" for k in range(60))
        rules = tuple((k, (k + 1,) * 12 if k < 59 else ("a",)) for k in range(60))
        task = ((names, 0, rules), ("a",), (1, (0,), ((0,),)), "", "behind")
        self.same(stand_vector(task, (0, 1, "a")), (12**59 + 12**58 + 1,))

    def test_up_to_the_limits(self):
        tokens = tuple("a" * k for k in range(1, 13)) + tuple("b" * k for k in range(1, 13))
        ring = (60, (7,), tuple(tuple((state + 1) % 60 for _ in tokens) for state in range(60)))
        found = stand_vector((NEST, tokens, ring, "", "behind"), (0, "b"))
        self.same((len(found), found[0], found[7], found[8]), (1380, 7, 60, 59))

    def test_refuses(self):
        self.refuses_all("NotUsable('stand')", stand_vector, (TASK,), BAD_STANDS)
        self.refuses_all("NotUsable('stand')", stand_vector, ((RING,) + TASK[1:],), BAD_STANDS)
        self.refuses("NotUsable('stand')", stand_vector, (ODD_ONES, CUTS, FREE, "", "behind"), (0, 3))
        self.refuses("NotUsable('stand')", stand_vector, (NO_TEXTS, ("a",), (1, (0,), ((0,),)), "", "behind"), (0,))

    def test_free_books_are_as_others(self):
        same = (2, (0, 1), ((1, 1), (0, 0)))
        self.same(stand_vector((NEST, ("a", "b"), FREE2, "", "behind"), (0, "b")), (1,))
        self.same(stand_vector((NEST, ("a", "b"), same, "", "behind"), (0, "b")), (1, 1))
