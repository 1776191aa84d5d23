"""The text of a tree, and where in it the trees within stand."""

from stillends.grammars import is_name, names_in
from stillends.trees import ask_tree


def tree_text(grammar, tree):
    """The letters of the tree, in sequence."""
    ask_tree(grammar, tree)
    return "".join(letters_of_tree(grammar, tree))


def letters_of_tree(grammar, tree):
    """The list of the letters of a tree, which is not checked."""
    return _letters_and_starts(grammar, tree)[0]


def spans(grammar, tree):
    """For each place of the tree the pair of where the letters of the tree that begins there begin and end."""
    ask_tree(grammar, tree)
    starts = _letters_and_starts(grammar, tree)[1]
    lengths = _lengths(grammar, tree)
    return tuple([(start, start + length) for start, length in zip(starts, lengths)])


def _letters_and_starts(grammar, tree):
    """The list of the letters, and for each place of the tree how many letters stand ahead of it."""
    rules = grammar[2]
    letters = []
    starts = []
    # The symbols that are still to be told, the next one last.
    due = [rules[tree[0]][0]]
    while len(due) > 0:
        symbol = due.pop()
        if is_name(symbol):
            body = rules[tree[len(starts)]][1]
            starts.append(len(letters))
            due.extend(body[::-1])
        else:
            letters.append(symbol)
    return (letters, starts)


def _lengths(grammar, tree):
    """For each place of the tree how many letters the tree that begins there has."""
    rules = grammar[2]
    lengths = []
    # The lengths of the trees that stand behind a place and are not yet below a rule, the nearest one last.
    behind = []
    for rule in tree[::-1]:
        body = rules[rule][1]
        kids = names_in(body)
        length = len(body) - len(kids)
        for _ in kids:
            length += behind.pop()
        behind.append(length)
        lengths.append(length)
    return lengths[::-1]
