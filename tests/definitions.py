"""What the document defines, worked out plainly for small cases, to compare with."""

from itertools import product

from stillends.treetexts import tree_text
from tests.test_trees import trees_of
from tests.test_usefulness import parts_by_sets, some_grammar


def beginnings_by_sets(grammar, most):
    """For each name its texts, each cut to so many letters: a set of pairs of what is left and whether it was cut."""
    found = [set() for _ in grammar[0]]
    changed = True
    while changed:
        changed = False
        for head, body in grammar[2]:
            ends = {("", False)}
            for symbol in body:
                more = found[symbol] if isinstance(symbol, int) else {(symbol, False)}
                ends = {joined_cut(left, right, most) for left in ends for right in more}
            if not ends <= found[head]:
                found[head] |= ends
                changed = True
    return found


def joined_cut(left, right, most):
    if left[1]:
        return left
    text = left[0] + right[0]
    return (text[:most], right[1] or len(text) > most)


def texts_by_sets(grammar, most):
    """For each name the set of its texts with at most so many letters."""
    return [{text for text, cut in found if not cut} for found in beginnings_by_sets(grammar, most)]


def looped_by_sets(grammar):
    """The ascending list of the looped names."""
    useful = parts_by_sets(grammar)[1]
    empty = [name for name, texts in enumerate(texts_by_sets(grammar, 0)) if "" in texts]
    leads = set()
    for rule in useful:
        head, body = grammar[2][rule]
        for k, symbol in enumerate(body):
            if isinstance(symbol, int) and all(other in empty for other in body[:k] + body[k + 1 :]):
                leads.add((head, symbol))
    for _ in grammar[0]:
        leads |= {(a, d) for a, b in leads for c, d in leads if b == c}
    return sorted({a for a, b in leads if a == b})


def some_unlooped(chance):
    """A small grammar by chance without looped names."""
    while True:
        grammar = some_grammar(chance)
        if not looped_by_sets(grammar):
            return grammar


def some_machine(chance, most_states=4, letters="ab", most_price=3):
    """A small machine by chance."""
    count = chance.randint(1, most_states)
    prices = {}
    for _ in range(chance.randint(0, 3 * count)):
        prices[(chance.randrange(count), chance.choice(letters), chance.randrange(count))] = chance.randint(0, most_price)
    return (count, tuple(sorted(arc + (price,) for arc, price in prices.items())))


def ways_of(machine, here, text):
    """All ways from a state that read the text, as pairs of the tuple of the states and the price."""
    found = [((here,), 0)]
    for letter in text:
        found = [
            (states + (there,), before + price)
            for states, before in found
            for begin, by, there, price in machine[1]
            if begin == states[-1] and by == letter
        ]
    return found


def runs_along(body, here, machine, items):
    """All runs along a body from a state, as pairs of the last state and the sum; items maps items to integers."""
    found = [(here, 0)]
    for symbol in body:
        if isinstance(symbol, str):
            leads = [(p, q, price) for p, letter, q, price in machine[1] if letter == symbol]
        else:
            leads = [(p, q, least) for (p, name, q), least in items.items() if name == symbol]
        found = [(q, before + least) for state, before in found for p, q, least in leads if p == state]
    return found


def threes_by_growing(grammar, machine):
    """The least three of each item that has a way, by lessening them until nothing changes."""
    count, arcs = machine
    least = {}
    changed = True
    while changed:
        changed = False
        for head, body in grammar[2]:
            for here in range(count):
                for there, three in least_runs(body, here, arcs, least).items():
                    item = (here, head, there)
                    three = (three[0], three[1], three[2] + 1)
                    if item not in least or three < least[item]:
                        least[item] = three
                        changed = True
    return least


def least_runs(body, here, arcs, least):
    ends = {here: (0, 0, 0)}
    for symbol in body:
        if isinstance(symbol, str):
            leads = [(p, q, (price, 1, 0)) for p, letter, q, price in arcs if letter == symbol]
        else:
            leads = [(p, q, three) for (p, name, q), three in least.items() if name == symbol]
        more = {}
        for p, q, three in leads:
            if p in ends:
                total = tuple(a + b for a, b in zip(ends[p], three))
                more[q] = min(total, more.get(q, total))
        ends = more
    return ends


def ways_with_trees(grammar, machine, name, most):
    """All (here, there, three, tree, states) of ways with trees of the name of at most so many rules."""
    found = []
    for tree in trees_of(grammar, name, most):
        text = tree_text(grammar, tree)
        for here in range(machine[0]):
            for states, price in ways_of(machine, here, text):
                found.append((here, states[-1], (price, len(text), len(tree)), tree, states))
    return found


def closed_by_runs(grammar, machine, items):
    """Whether the items, a set, are closed."""
    told = {item: 0 for item in items}
    return all(
        (here, head, there) in items
        for head, body in grammar[2]
        for here in range(machine[0])
        for there, _ in runs_along(body, here, machine, told)
    )


def holds_by_runs(grammar, machine, table):
    """Whether a table of floors holds."""
    told = {row[:3]: row[3] for row in table}
    return all(
        (here, head, there) in told and told[(here, head, there)] <= least
        for head, body in grammar[2]
        for here in range(machine[0])
        for there, least in runs_along(body, here, machine, told)
    )


def all_items(grammar, machine):
    return list(product(range(machine[0]), range(len(grammar[0])), range(machine[0])))


