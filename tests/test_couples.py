"""[100], [105], (G13): couples."""

import random

from stillends.couples import couple, kept
from tests.helpers import DEEP, ODD, Case

NO_WEIGHTS = ODD + (0, 1, "", "1", (), (0,), (0, 0), (1, True), (1, -1), [1, 1], (1, "1"), (1, (1,)), DEEP)


def couples_by_lists(target, draft):
    """The pair of proposal and outcome of each number, by lists of all numbers."""
    many = range(len(target))
    wanted = [weight * sum(draft) for weight in target]
    offered = [weight * sum(target) for weight in draft]
    proposals = [x for x in many for _ in range(offered[x])]
    others = [x for x in many for _ in range(max(0, wanted[x] - offered[x]))]
    met, found = [0] * len(target), []
    for x in proposals:
        found.append((x, x if met[x] < min(wanted[x], offered[x]) else others.pop(0)))
        met[x] += 1
    return found


class CoupleTest(Case):
    def test_by_lists(self):
        chance = random.Random(100)
        for _ in range(400):
            many = chance.randint(1, 5)
            target = tuple(chance.choice((0, 0, 1, 2, 3, 5)) for _ in range(many))
            draft = tuple(chance.choice((0, 0, 1, 2, 3, 4)) for _ in range(many))
            if sum(target) and sum(draft):
                expected = couples_by_lists(target, draft)
                found = [couple(target, draft, number) for number in range(sum(target) * sum(draft))]
                self.same(found, expected)
                self.same(kept(target, draft), sum(x == y for x, y in expected))
                self.refuses("NotUsable('number')", couple, target, draft, len(expected))

    def test_shares(self):
        target, draft = (3, 0, 5, 1), (1, 2, 0, 4)
        found = [couple(target, draft, number) for number in range(63)]
        for x in range(4):
            self.same(sum(y == x for y, _ in found), draft[x] * 9)
            self.same(sum(y == x for _, y in found), target[x] * 7)
        self.same(kept(target, draft), sum(min(target[x] * 7, draft[x] * 9) for x in range(4)))

    def test_example(self):
        self.same((couple((3, 1), (1, 1), 5), couple((3, 1), (1, 1), 6), kept((3, 1), (1, 1))), ((1, 1), (1, 0), 6))

    def test_one_weight_and_equal_ones(self):
        self.same((couple((7,), (3,), 0), couple((7,), (3,), 20), kept((7,), (3,))), ((0, 0), (0, 0), 21))
        self.same([couple((2, 4), (1, 2), number) for number in (0, 5, 6, 17)], [(0, 0), (0, 0), (1, 1), (1, 1)])
        self.same((kept((2, 4), (1, 2)), kept((1, 0), (0, 1))), (18, 0))
        self.same(couple((1, 0), (0, 1), 0), (1, 0))

    def test_big_numbers(self):
        big = 10**29
        self.same(couple((big, 1), (1, big), 0), (0, 0))
        last = (big + 1) ** 2 - 1
        self.same((couple((big, 1), (1, big), last), kept((big, 1), (1, big))), ((1, 0), 2 * (big + 1)))
        self.refuses("NotUsable('number')", couple, (big, 1), (1, big), last + 1)

    def test_errors(self):
        for thing in NO_WEIGHTS:
            self.refuses("NotUsable('target')", couple, thing, thing, None)
            self.refuses("NotUsable('target')", kept, thing, thing)
            self.refuses("NotUsable('draft')", couple, (1, 1), thing, None)
            self.refuses("NotUsable('draft')", kept, (1, 1), thing)
        for thing in ((1,), (1, 1, 1)):
            self.refuses("NotUsable('draft')", couple, (1, 1), thing, 0)
            self.refuses("NotUsable('draft')", kept, (1, 1), thing)
        for number in ODD + (4, 10**59, "0", "", (), (0,), DEEP):
            self.refuses("NotUsable('number')", couple, (1, 1), (1, 1), number)
