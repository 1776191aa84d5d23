"""What the document defines of rows, customs, stands and pairs, worked out plainly for small cases, to compare with."""

from functools import lru_cache
from itertools import product

from stillends.chains import chained
from stillends.meets import least_three
from stillends.spellers import place_behind, priced, speller
from stillends.tapes import says
from stillends.tasks import is_good, letters_read
from stillends.treecounts import count_trees
from stillends.treenumbers import nth_tree
from tests.chances import rich_task, rich_writer
from tests.definitions import beginnings_by_sets
from tests.helpers import rows_upto
from tests.test_usefulness import parts_by_sets


@lru_cache(None)
def rests_of(task, row, most):
    """The tuple of all endings of the row with at most so many tokens, by length."""
    return tuple(rest for rest in rows_upto(len(task[1]), most) if is_good(task, row + rest))


def need_by_rows(task, row, most):
    """The need of the row if it is at most so great, otherwise None."""
    return min((len(rest) for rest in rests_of(task, row, most)), default=None)


@lru_cache(None)
def least_three_of(task, row):
    """The least three of the ways of the chained machine of a row to finals, None if there is none."""
    grammar, tokens, book, begun, mode = task
    place = place_behind(tokens, book, begun, mode, row)
    if place is None:
        return None
    places, finals, _ = speller(tokens, book, begun, mode)
    machine, first = chained(priced(tokens, book, begun, mode), places.index(place), letters_read(task, row))
    threes = [least_three(grammar, machine, first, grammar[1], final) for final in finals]
    return min((three for three in threes if three is not None), default=None)


def need_by_ways(task, row):
    """The need of the row, by the prices of items of the chained machine."""
    three = least_three_of(task, row)
    return None if three is None else three[0]


def mask_by_ways(task, row, left):
    needs = [need_by_ways(task, row + (token,)) for token in range(len(task[1]))]
    fitting = tuple(token for token, need in enumerate(needs) if need is not None and need <= left - 1)
    return (fitting, need_by_ways(task, row) == 0)


def choices_of(mask):
    return ((-1,) if mask[1] else ()) + mask[0]


def mask_by_length(task, budget):
    """The mask as a custom: a dict from the rows that it comes to, by length, to their choices."""
    found = {}
    rows = [()]
    while rows:
        for row in rows:
            found[row] = choices_of(mask_by_ways(task, row, budget - len(row)))
        rows = [row + (choice,) for row in rows for choice in found[row] if choice != -1]
    return found


def fault_by_rows(task, budget, custom):
    """What fault has to tell, by all rows of at most budget tokens."""
    lets = dict(custom)
    come = {(): True}
    for row in rows_upto(len(task[1]), budget)[1:]:
        if row[:-1] in come and row[-1] in lets.get(row[:-1], ()):
            come[row] = True
    for row in come:
        choices = lets.get(row, ())
        if not choices:
            return ("stuck", row)
        if -1 in choices and not is_good(task, row) or len(row) == budget and choices != (-1,):
            return ("wrong", row)
    for row in rows_upto(len(task[1]), budget):
        if is_good(task, row) and (row not in come or -1 not in lets.get(row, ())):
            return ("loses", row)
    return None


class Stands:
    """Stands as [9] tells of them, with tuples."""

    def __init__(self, grammar):
        self.grammar = grammar
        self.names, self.rules = parts_by_sets(grammar)
        useful = (grammar[0], grammar[1], tuple(grammar[2][rule] for rule in self.rules))
        self.texts = beginnings_by_sets(useful, 1)

    def first(self, symbols):
        """The first letters of symbols, and the empty string if all are nullable."""
        if not symbols:
            return {""}
        head, rest = symbols[0], symbols[1:]
        own = {text for text, _ in self.texts[head]} if isinstance(head, int) else {head}
        return own - {""} | (self.first(rest) if "" in own else set())

    def push(self, stand, letter):
        """The stand and the rules read, None if there is no stand."""
        read = ()
        while stand and isinstance(stand[0], int):
            name = stand[0]
            own = [rule for rule in self.rules if self.grammar[2][rule][0] == name]
            fitting = [rule for rule in own if letter in self.first(self.grammar[2][rule][1])]
            if fitting:
                assert len(fitting) == 1
                read += (fitting[0],)
                stand = self.grammar[2][fitting[0]][1] + stand[1:]
            elif "" in self.first((name,)):
                read += self.empty_tree(name)
                stand = stand[1:]
            else:
                return None
        return (stand[1:], read) if stand[:1] == (letter,) else None

    def empty_tree(self, name):
        blank = [r for r in self.rules if self.grammar[2][r][0] == name and "" in self.first(self.grammar[2][r][1])]
        assert len(blank) == 1
        return (blank[0],) + sum((self.empty_tree(other) for other in self.grammar[2][blank[0]][1]), ())

    def behind(self, text):
        """The stand behind the text and the rules read, None if there is no stand."""
        found = ((self.grammar[1],), ()) if self.grammar[1] in self.names else None
        for letter in text:
            pushed = self.push(found[0], letter) if found else None
            found = (pushed[0], found[1] + pushed[1]) if pushed else None
        return found

    def may_end(self, stand):
        return all(isinstance(symbol, int) and "" in self.first((symbol,)) for symbol in stand)


def common_beginning(things):
    """The longest common beginning of at least one text or tuple."""
    first, last = min(things), max(things)
    length = 0
    while length < min(len(first), len(last)) and first[length] == last[length]:
        length += 1
    return first[:length]


def only_tree(grammar, text):
    """The only tree of the text, None if it has none."""
    count = count_trees(grammar, text)
    assert count < 2
    return nth_tree(grammar, text, 0) if count else None


@lru_cache(None)
def trees_with(grammar, text):
    """All trees of the grammar with the text, in their sequence."""
    return tuple(nth_tree(grammar, text, k) for k in range(count_trees(grammar, text)))


@lru_cache(None)
def good_pairs(task, writer, budget):
    """The tuple of all good pairs, in their sequence."""
    found = []
    for tape in product(range(writer[0]), repeat=budget + 1):
        row, ended, _ = says(task[1], writer, tape)
        if ended and is_good(task, row):
            found.extend((tape, tree) for tree in trees_with(task[0], letters_read(task, row)))
    return tuple(found)


def some_pairs(chance, grammars, budgets):
    """A task, a writer and a budget by chance, with at most some thousand good pairs, and these."""
    while True:
        task = rich_task(chance, grammars(chance), most=3)
        writer = rich_writer(chance, len(task[1]))
        budget = chance.randint(0, budgets if writer[0] < 5 else min(budgets, 2))
        trees = [count_trees(task[0], letters_read(task, row)) for row in rests_of(task, (), budget)]
        if sum(trees) < 50:
            return task, writer, budget, good_pairs(task, writer, budget)
