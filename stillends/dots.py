"""The bodies of the useful rules with a dot in them: ahead of it is what has been read, behind it what is to come."""

from stillends.grammars import is_name
from stillends.nulls import nullable_names
from stillends.orders import components
from stillends.usefulness import useful_parts

# The dot behind the whole of a body, the same one for all bodies.
OVER = 0


class Dots:
    """The dots in the bodies of the useful rules of a grammar, by number.

    Bodies of one name that begin alike share their dots. But the last symbol of a body always leads to OVER,
    so that what comes last can be told apart: a symbol may lead to OVER and to another dot, too.
    """

    def __init__(self, grammar):
        names, rules = useful_parts(grammar)
        self.start = grammar[1]
        nullable = {name: True for name in nullable_names(grammar)}
        self.nullable = {name: True for name in names if name in nullable}
        # For each dot the name of its bodies; where letters and names behind it lead; whether nothing has to come.
        self.heads = [-1]
        self.letters = [{}]
        self.names = [[]]
        self.ends = [True]
        # The dot ahead of all of a name's bodies, for each useful name; and dots ahead of one letter alone.
        self.roots = {}
        self._alone = {}
        for name in names:
            self.roots[name] = self._new_dot(name)
        inner = {}
        for rule in rules:
            self._put_down(grammar[2][rule], inner)
        # For each dot the names that can be empty, and where they lead.
        self.skips = [[step for step in steps if step[0] in nullable] for steps in self.names]
        # For each name what can come first in it: for each letter where it leads, and names with where they lead.
        self.left_letters = {}
        self.left_names = {}
        for name in names:
            self._find_lefts(name)
        self.left_parts = self._parts([[other for other, _ in self.left_names[name]] for name in sorted(names)])
        self._rings = self._found_rings()

    def _new_dot(self, name):
        self.heads.append(name)
        self.letters.append({})
        self.names.append([])
        self.ends.append(False)
        return len(self.heads) - 1

    def _put_down(self, rule, inner):
        """Lays out the body of a rule; inner has the dots that are there, by the dot and the symbol before them."""
        head, body = rule
        here = self.roots[head]
        if len(body) == 0:
            self.ends[here] = True
        for k, symbol in enumerate(body):
            if k + 1 == len(body):
                self._lead(here, symbol, OVER)
            else:
                step = (here, symbol)
                if step not in inner:
                    inner[step] = self._new_dot(head)
                    self._lead(here, symbol, inner[step])
                here = inner[step]

    def _lead(self, here, symbol, there):
        if is_name(symbol):
            self.names[here].append((symbol, there))
        else:
            self.letters[here].setdefault(symbol, []).append(there)

    def zero_dots(self, name):
        """The list of the dots in a name's bodies ahead of which all can be empty, each behind the one before it."""
        found = [self.roots[name]]
        known = {self.roots[name]: True}
        at = 0
        while at < len(found):
            here = found[at]
            for _, longer in self.skips[here]:
                if longer != OVER and longer not in known:
                    known[longer] = True
                    found.append(longer)
            at += 1
        return found

    def _find_lefts(self, name):
        letters = {}
        names = []
        for dot in self.zero_dots(name):
            for letter, leads in self.letters[dot].items():
                letters.setdefault(letter, []).extend(leads)
            names.extend(self.names[dot])
        self.left_letters[name] = letters
        self.left_names[name] = names

    def _parts(self, leads):
        """The useful names in lists of those that lead to one another, a list ahead of all others that it leads to.

        leads has for each useful name, ascending, the list of those to which it leads.
        """
        names = sorted(self.roots)
        numbers = {name: k for k, name in enumerate(names)}
        parts = components([[numbers[other] for other in others] for others in leads])
        return [[names[k] for k in part] for part in parts[::-1]]

    def _found_rings(self):
        """For each useful name a number, the same one for names that stand in bodies of one another."""
        leads = {name: [] for name in self.roots}
        for head, steps in zip(self.heads[1:], self.names[1:]):
            leads[head].extend([name for name, _ in steps])
        parts = self._parts([leads[name] for name in sorted(leads)])
        return {name: k for k, part in enumerate(parts) for name in part}

    def turns(self, dot, name):
        """Whether a name behind a dot may lead back to the name of the dot's bodies."""
        return self._rings[self.heads[dot]] == self._rings[name]

    def dot_of(self, symbol):
        """A dot behind which just this symbol has to come, a useful name or any letter."""
        if is_name(symbol):
            return self.roots[symbol]
        if symbol not in self._alone:
            self._alone[symbol] = self._new_dot(-1)
            self.skips.append([])
            self._lead(self._alone[symbol], symbol, OVER)
        return self._alone[symbol]
