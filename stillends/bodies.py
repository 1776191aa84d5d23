"""The bodies of rules, laid out as a tree of their beginnings, so that each is gone along once."""

from stillends.grammars import is_name
from stillends.orders import components
from stillends.usefulness import useful_parts


def all_bodies(grammar):
    """The bodies of all rules, useless ones too."""
    return Bodies(grammar, list(range(len(grammar[2]))))


def useful_bodies(grammar):
    """The bodies of the useful rules."""
    return Bodies(grammar, list(useful_parts(grammar)[1]))


class Bodies:
    """The beginnings of the bodies of some rules of a grammar.

    The beginnings have the numbers below many, 0 the empty one, each a greater one than that which it
    goes on from. part_of gives a name a number behind these: beginnings and names are the parts.
    """

    def __init__(self, grammar, rules):
        # For each beginning its last symbol, the beginning without it, and what goes on from it.
        self.lasts = [None]
        self.befores = [0]
        self.by_letter = [[]]
        self.by_name = [[]]
        # For each beginning the names that have a rule whose body is all of it.
        self.ends = [[]]
        # For each name the beginnings of which it is the last symbol, and pairs (rule, whole body) of its rules.
        self.uses = [[] for _ in grammar[0]]
        self.wholes = [[] for _ in grammar[0]]
        numbers = {}
        for rule in rules:
            head, body = grammar[2][rule]
            whole = self._laid_out(body, numbers)
            self.ends[whole].append(head)
            self.wholes[head].append((rule, whole))
        self.many = len(self.lasts)

    def _laid_out(self, body, numbers):
        """The number of the beginning that is this body; numbers has those that are there by what they go on from."""
        here = 0
        for symbol in body:
            step = (here, symbol)
            if step not in numbers:
                numbers[step] = self._new_one(here, symbol)
            here = numbers[step]
        return here

    def _new_one(self, before, symbol):
        number = len(self.lasts)
        self.lasts.append(symbol)
        self.befores.append(before)
        self.by_letter.append([])
        self.by_name.append([])
        self.ends.append([])
        if is_name(symbol):
            self.by_name[before].append((symbol, number))
            self.uses[symbol].append(number)
        else:
            self.by_letter[before].append((symbol, number))
        return number

    def part_of(self, name):
        """The number of a name among the parts."""
        return self.many + name

    def path_to(self, beginning):
        """The beginnings that lead to this one, the empty one first, this one last."""
        path = [beginning]
        while path[-1] != 0:
            path.append(self.befores[path[-1]])
        return path[::-1]

    def lone_parts(self, nullable):
        """The parts in lists, each list of those that derive one another with all else empty.

        A list stands behind those that its parts need; nullable has the nullable names.
        """
        empty = [True]
        leads = [[]]
        for beginning in range(1, self.many):
            last = self.lasts[beginning]
            before = self.befores[beginning]
            fades = is_name(last) and last in nullable
            empty.append(empty[before] and fades)
            leads.append([before] if fades else [])
            if is_name(last) and empty[before]:
                leads[-1].append(self.part_of(last))
        for wholes in self.wholes:
            leads.append([whole for _, whole in wholes])
        return components(leads)

    def ranks(self, nullable):
        """For each part a number, greater than those of the parts that it needs to derive the same with all else empty.

        That is so if no name is looped.
        """
        numbers = {}
        for parts in self.lone_parts(nullable):
            for part in parts:
                numbers[part] = len(numbers)
        return numbers
