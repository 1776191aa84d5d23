"""Grammars, tasks and writers by chance, small enough to list all that the document defines."""

from stillends.listings import texts_upto
from stillends.nulls import first_looped
from stillends.predicting import reads_one_way
from stillends.tasks import is_good
from stillends.usefulness import useful_parts
from tests.helpers import CUTS, FREE, FREE2, LONE, NEST, PAIRS, PART, TASK, rows_upto

MODES = ("behind", "healed")
FORK = (("s", "t", "u"), 0, ((0, (1, "c")), (1, ()), (1, ("a", 1, "b")), (2, (2,))))
REGULAR = (("s",), 0, ((0, ()), (0, ("a", 0)), (0, ("b", 0))))
LEFT = (("s",), 0, ((0, ()), (0, (0, "a")), (0, (0, "b"))))
DYCK = (("s",), 0, ((0, ()), (0, ("a", 0, "b", 0))))
DOUBLE = (("s",), 0, ((0, ("a",)), (0, ("b",)), (0, (0, 0))))
PALINDROMES = (("s",), 0, ((0, ()), (0, ("a",)), (0, ("b",)), (0, ("a", 0, "a")), (0, ("b", 0, "b"))))
NO_TEXTS = (("s",), 0, ())
NO_FINALS = (1, (), ((0, 0, 0),))
# Tasks in which no row is good: no text, no final of the book, what is begun begins no text.
LOST_TASKS = (
    (NO_TEXTS,) + TASK[1:], (NEST, CUTS, NO_FINALS, "", "behind"), (NEST, CUTS, FREE, "b", "behind"),
    (NEST, CUTS, FREE, "b", "healed"),
)
# Lists of lists of a: a list is in brackets b and c, with d between its parts.
LISTS = (("v", "l", "m"), 0, ((0, ("a",)), (0, ("b", 1, "c")), (1, ()), (1, (0, 2)), (2, ()), (2, ("d", 0, 2))))
KNOWN = (NEST, PAIRS, PART, FORK, REGULAR, LEFT, DYCK, DOUBLE, PALINDROMES, LISTS)


def in_sequence(rules):
    return tuple(sorted(set(rules), key=lambda rule: (rule[0], [str(symbol) for symbol in rule[1]])))


def some_symbols(chance, many, most, letters):
    """Some symbols, more letters than names."""
    symbols = list(letters) + list(letters) + list(range(many))
    return tuple(chance.choice(symbols) for _ in range(chance.randint(0, most)))


def rich_grammar(chance, letters="ab"):
    """A small grammar by chance, most often with many texts."""
    many = chance.randint(1, 4)
    rules = []
    for head in range(many):
        for _ in range(chance.randint(1, 4)):
            rules.append((head, some_symbols(chance, many, 4, letters)))
        if chance.random() < 0.7:
            rules.append((head, tuple(chance.choice(letters) for _ in range(chance.randint(0, 2)))))
    return (tuple(f"n{k}" for k in range(many)), chance.randrange(many), in_sequence(rules))


def unlooped_grammar(chance):
    """A small grammar by chance with texts, and without looped names."""
    while True:
        grammar = rich_grammar(chance)
        if useful_parts(grammar)[0] and first_looped(grammar) is None:
            return grammar


def one_way_grammar(chance, letters="ab"):
    """A small grammar by chance that reads one way; most have some texts, many useless names."""
    while True:
        many = chance.randint(1, 4)
        rules = []
        for head in range(many):
            for letter in chance.sample(letters, chance.randint(0, len(letters))):
                rules.append((head, (letter,) + some_symbols(chance, many, 3, letters)))
            if chance.random() < 0.5:
                rules.append((head, tuple(chance.randrange(many) for _ in range(chance.randint(0, 2)))))
            if chance.random() < 0.2:
                rules.append((head, (chance.randrange(many), chance.choice(letters))))
        grammar = (tuple(f"n{k}" for k in range(many)), chance.randrange(many), in_sequence(rules))
        if reads_one_way(grammar) and (len(texts_upto(grammar, 5)) > 2 or chance.random() < 0.05):
            return grammar


def rich_case(chance, letters="ab", most=5):
    """Tokens, a book for them, and what is begun."""
    tokens = set(letters) if chance.random() < 0.4 else set()
    while len(tokens) < chance.randint(1, most):
        tokens.add("".join(chance.choice(letters) for _ in range(chance.randint(1, 3))))
    tokens = sorted(tokens)
    chance.shuffle(tokens)
    count = chance.randint(1, 3)
    table = tuple(
        tuple(chance.randrange(count) if chance.random() < 0.9 else -1 for _ in tokens) for _ in range(count)
    )
    finals = tuple(sorted(chance.sample(range(count), chance.randint(0 if chance.random() < 0.1 else 1, count))))
    begun = "".join(chance.choice(letters) for _ in range(chance.choice((0, 0, 0, 1, 1, 2, 3))))
    return tuple(tokens), (count, finals, table), begun


def rich_task(chance, grammar, letters="ab", most=5):
    tokens, book, begun = rich_case(chance, letters, most)
    return (grammar, tokens, book, begun, chance.choice(MODES))


def ring_grammar(many):
    """So many names, each of which derives an a, an x ahead of two of these, or two of these about a y."""
    rules = []
    for k in range(many):
        parts = ((k + 1,), ("x", k * 7 + 3, k * 11 + 5), (k * 13 + 2, "y", k * 5 + 1))
        rules.extend([(k, tuple(s if isinstance(s, str) else s % many for s in part)) for part in parts])
        if k == many // 3:
            rules.append((k, ("a",)))
    return (tuple(f"n{k}" for k in range(many)), 0, tuple(rules))


def some_row(chance, task, most=3):
    return tuple(chance.randrange(len(task[1])) for _ in range(chance.randint(0, most)))


def rich_writer(chance, many):
    """A writer for so many tokens by chance, few of whose weights are 0."""
    count = chance.randint(1, 3)
    total = many + chance.randint(1, 3)
    weights = []
    for _ in range(count):
        shares = [1 if chance.random() < 0.85 else 0 for _ in range(many + 1)]
        while sum(shares) < total:
            shares[chance.randrange(many + 1)] += 1
        weights.append(tuple(shares))
    return (total, tuple(weights), tuple(tuple(chance.randrange(count) for _ in range(many)) for _ in range(count)))


def beginning_of_good_row(chance, task, most):
    """Some beginning of a good row with at most so many tokens, most often; of any row if there is none."""
    good = [row for row in rows_upto(len(task[1]), most) if is_good(task, row)] if chance.random() < 0.9 else []
    row = chance.choice(good) if good else some_row(chance, task, 2)
    return row[: chance.randint(0, len(row))]


def known_tasks(grammars=KNOWN):
    """Tasks with known grammars."""
    found = []
    for grammar in grammars:
        for tokens, book in ((CUTS, FREE), (LONE, FREE2), (("a", "b", "ba"), (2, (1,), ((1, 1, 0), (0, -1, 1))))):
            for begun, mode in (("", "behind"), ("", "healed"), ("a", "healed"), ("ab", "healed"), ("a", "behind")):
                found.append((grammar, tokens, book, begun, mode))
    return found
