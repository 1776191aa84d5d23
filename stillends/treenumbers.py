"""Trees of a text by number, in the sequence in which Python sorts them."""

from stillends.checks import ask_text
from stillends.closures import bits
from stillends.errors import NotUsable, TooMuch
from stillends.grammars import is_name
from stillends.letters import is_letter, is_number
from stillends.limits import TREE_LIMIT
from stillends.nulls import ask_no_loop
from stillends.treecounts import Forest
from stillends.trees import is_of_grammar
from stillends.treetexts import letters_of_tree


def nth_tree(grammar, text, k):
    """Number k of the trees of the grammar with the text."""
    ask_text(text)
    if not is_number(k):
        raise NotUsable("k")
    ask_no_loop(grammar)
    forest = Forest(grammar, text)
    if k >= forest.total():
        raise NotUsable("k")
    return tree_at(grammar, forest, len(text), k)


def tree_at(grammar, forest, length, k):
    """Number k of the trees of a forest, whose text has this length; TooMuch("tree")."""
    walk = Walk(forest, grammar[1], length)
    tree = []
    while not walk.is_over():
        if len(tree) == TREE_LIMIT:
            raise TooMuch("tree")
        for rule, number in walk.rule_numbers():
            if k < number:
                tree.append(rule)
                break
            k -= number
        walk.take(tree[-1])
    return tuple(tree)


def rank_tree(grammar, tree):
    """The number of the tree among the trees of the grammar with its text."""
    if not is_of_grammar(grammar, tree):
        raise NotUsable("tree")
    ask_no_loop(grammar)
    return rank_of(grammar, tree)


def rank_of(grammar, tree):
    """What rank_tree tells of a tree of the grammar, which is not checked."""
    text = "".join(letters_of_tree(grammar, tree))
    walk = Walk(Forest(grammar, text), grammar[1], len(text))
    rank = 0
    for taken in tree:
        rank += sum([number for rule, number in walk.rule_numbers() if rule < taken])
        walk.take(taken)
    return rank


class Walk:
    """A tree that is put together rule by rule, among all trees of a forest.

    The rules so far tell which letters stand ahead of the name that is due next, and which symbols
    are due behind it; so it is known in how many ways these can derive the rest of the text.
    """

    def __init__(self, forest, name, length):
        self._forest = forest
        self._at = 0
        # What is due, the next one last: letters, and pairs of a name and a dict that tells, for each place
        # in the text, in how many ways all that is due behind the name derives what stands there and on.
        self._due = [(name, {length: 1})]

    def is_over(self):
        """Whether no name is due any more."""
        return len(self._due) == 0

    def rule_numbers(self):
        """The list of pairs of a rule of the name that is due next, and how many of the trees go on with it."""
        name, behind = self._due[-1]
        forest = self._forest
        found = []
        for rule, whole in forest.bodies.wholes[name]:
            ways = [forest.number(self._at, whole, there) * behind[there] for there in behind]
            found.append((rule, sum(ways)))
        return found

    def take(self, rule):
        """Goes on with the rule, one of those of the name that is due next."""
        bodies = self._forest.bodies
        name, behind = self._due.pop()
        wholes = {other: whole for other, whole in bodies.wholes[name]}
        due = []
        for beginning in bodies.path_to(wholes[rule])[:0:-1]:
            last = bodies.lasts[beginning]
            due.append((last, behind) if is_name(last) else last)
            behind = self._ways_behind(beginning, behind)
        self._due.extend(due)
        while len(self._due) > 0 and is_letter(self._due[-1]):
            self._due.pop()
            self._at += 1

    def _ways_behind(self, beginning, behind):
        """The dict for the last symbol of the beginning and all behind it, from the dict for all behind it."""
        forest = self._forest
        last = forest.bodies.lasts[beginning]
        reached = forest.closure.reached[self._at]
        ends = [there for there in bits(reached[beginning]) if there in behind]
        if not is_name(last):
            return {there - 1: behind[there] for there in ends}
        part = forest.bodies.part_of(last)
        ahead = {}
        for stop in bits(reached[forest.bodies.befores[beginning]]):
            ways = sum([forest.number(stop, part, there) * behind[there] for there in ends])
            if ways > 0:
                ahead[stop] = ways
        return ahead
