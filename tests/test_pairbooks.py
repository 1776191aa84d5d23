"""[18], [24]: the least books that keep tokens from standing behind others."""

import random

from stillends.books import lets_book, takes
from stillends.pairbooks import pairs_book
from tests.helpers import CUTS, DEEP, ODD, Case, rows_upto

MANY = tuple(f"t{k}" for k in range(120))


class LeastBookCase(Case):
    def is_least(self, tokens, book):
        """All states are finals, numbered as they are first met, and no two run through the same rows."""
        count, finals, table = book
        self.same(lets_book(tokens, book), count)
        self.same(finals, tuple(range(count)))
        met = [0]
        for state in range(count):
            self.assertLess(state, len(met))
            for lead in table[state]:
                if lead not in met and lead >= 0:
                    met.append(lead)
        self.same(met, list(range(count)))
        self.same(count, len({self.rows_from(table, state, count) for state in range(count)}))

    def rows_from(self, table, state, depth):
        """What tells a state apart: the tokens by which each way of up to depth steps goes on, as classes."""
        classes = [0] * len(table)
        for _ in range(depth):
            marks = [tuple(-1 if lead < 0 else classes[lead] for lead in row) for row in table]
            kinds = sorted(set(marks))
            classes = [kinds.index(mark) for mark in marks]
        return classes[state]


class PairsBookTest(LeastBookCase):
    def test_takes_just_the_rows_without_the_pairs(self):
        chance = random.Random(18)
        for _ in range(40):
            many = chance.randint(1, 4)
            tokens = MANY[:many]
            pairs = tuple((chance.randrange(many), chance.randrange(many)) for _ in range(chance.randint(0, 7)))
            book = pairs_book(tokens, pairs)
            self.is_least(tokens, book)
            for row in rows_upto(many, 4):
                self.same(takes(tokens, book, row), not set(zip(row, row[1:])) & set(pairs))
            sets = {frozenset(other for first, other in pairs if first == token) for token in range(many)}
            self.same(book[0], len(sets | {frozenset()}))

    def test_without_pairs_it_is_the_free_book(self):
        self.same(pairs_book(CUTS, ()), (1, (0,), ((0, 0, 0),)))

    def test_sequence_and_duplicates_do_not_matter(self):
        pairs = ((2, 0), (0, 1), (1, 1), (0, 1))
        self.same(pairs_book(CUTS, pairs), pairs_book(CUTS, tuple(sorted(set(pairs)))))

    def test_a_token_behind_which_nothing_stands(self):
        self.same(pairs_book(("a", "b"), ((1, 0), (1, 1))), (2, (0, 1), ((0, 1), (-1, -1))))

    def test_sixty_states_and_one_more(self):
        at = tuple((k, k) for k in range(59))
        self.same(pairs_book(MANY, at)[0], 60)
        self.is_least(MANY, pairs_book(MANY, at))
        self.same(pairs_book(MANY, at + tuple((60, k) for k in (3,)))[0], 60)
        self.refuses("TooMuch('book')", pairs_book, MANY, at + ((59, 59),))
        self.refuses("TooMuch('book')", pairs_book, MANY, tuple((k, k) for k in range(120)))

    def test_refuses(self):
        wrong = ODD[:-4] + (
            0, "", "ab", [(0, 1)], DEEP, ((0,),), ((0, 1, 2),), ([0, 1],), ((0, 3),), ((-1, 0),), ((0, True),),
            ((False, 0),), ((0, 1), (0, None)), ((0, 1), 0), ("ab",), ((0, "1"),), (0, 1),
        )
        self.refuses_all("NotUsable('pairs')", pairs_book, (CUTS,), wrong)
        self.refuses("NotUsable('pairs')", pairs_book, MANY, tuple((k, k) for k in range(121)))
