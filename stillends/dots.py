"""The bodies of the useful rules with a dot in them: ahead of it is what has been read, behind it what is to come."""

from stillends.grammars import is_name
from stillends.nulls import nullable_names
from stillends.orders import components
from stillends.usefulness import useful_parts

# The dot behind the whole of a body, the same one for all bodies.
OVER = 0


class Dots:
    """The dots in the bodies of the useful rules of a grammar, by number.

    Bodies of one name that begin alike share their dots. But the last symbol of a body always leads to OVER,
    so that what comes last can be told apart: a symbol may lead to OVER and to another dot, too.
    """

    def __init__(self, grammar):
        names, rules = useful_parts(grammar)
        self.start = grammar[1]
        nullable = {name: True for name in nullable_names(grammar)}
        self.nullable = {name: True for name in names if name in nullable}
        # For each dot the name of its bodies; where letters and names behind it lead; whether nothing has to come.
        self.heads = [-1]
        self.letters = [{}]
        self.names = [[]]
        self.ends = [True]
        # The dot ahead of all of a name's bodies, for each useful name; and dots ahead of one letter alone.
        self.roots = {}
        self._alone = {}
        for name in names:
            self.roots[name] = self._new_dot(name)
        inner = {}
        for rule in rules:
            self._put_down(grammar[2][rule], inner)
        # For each dot the names that can be empty, and where they lead.
        self.skips = [[step for step in steps if step[0] in nullable] for steps in self.names]
        # For each name what can come first in it: for each letter where it leads, and names with where they lead.
        self.left_letters = {}
        self.left_names = {}
        for name in names:
            self._find_lefts(name)
        self.left_parts = self._parts([[other for other, _ in self.left_names[name]] for name in sorted(names)])
        self._rings = self._found_rings()
        # The names behind which more stands in some body, as a dict of True.
        self.inner = {name: True for steps in self.names for name, longer in steps if longer != OVER}

    def _new_dot(self, name):
        self.heads.append(name)
        self.letters.append({})
        self.names.append([])
        self.ends.append(False)
        return len(self.heads) - 1

    def _put_down(self, rule, inner):
        """Lays out the body of a rule; inner has the dots that are there, by the dot and the symbol before them."""
        head, body = rule
        here = self.roots[head]
        if len(body) == 0:
            self.ends[here] = True
        for k, symbol in enumerate(body):
            if k + 1 == len(body):
                self._lead(here, symbol, OVER)
            else:
                step = (here, symbol)
                if step not in inner:
                    inner[step] = self._new_dot(head)
                    self._lead(here, symbol, inner[step])
                here = inner[step]

    def _lead(self, here, symbol, there):
        if is_name(symbol):
            self.names[here].append((symbol, there))
        else:
            self.letters[here].setdefault(symbol, []).append(there)

    def zero_dots(self, name):
        """The list of the dots in a name's bodies ahead of which all can be empty, each behind the one before it."""
        found = [self.roots[name]]
        known = {self.roots[name]: True}
        at = 0
        while at < len(found):
            here = found[at]
            for _, longer in self.skips[here]:
                if longer != OVER and longer not in known:
                    known[longer] = True
                    found.append(longer)
            at += 1
        return found

    def _find_lefts(self, name):
        letters = {}
        names = []
        for dot in self.zero_dots(name):
            for letter, leads in self.letters[dot].items():
                letters.setdefault(letter, []).extend(leads)
            names.extend(self.names[dot])
        self.left_letters[name] = letters
        self.left_names[name] = names

    def _parts(self, leads):
        """The useful names in lists of those that lead to one another, a list ahead of all others that it leads to.

        leads has for each useful name, ascending, the list of those to which it leads.
        """
        names = sorted(self.roots)
        numbers = {name: k for k, name in enumerate(names)}
        parts = components([[numbers[other] for other in others] for others in leads])
        return [[names[k] for k in part] for part in parts[::-1]]

    def _found_rings(self):
        """For each useful name a number, the same one for names that stand in bodies of one another."""
        leads = {name: [] for name in self.roots}
        for head, steps in zip(self.heads[1:], self.names[1:]):
            leads[head].extend([name for name, _ in steps])
        parts = self._parts([leads[name] for name in sorted(leads)])
        return {name: k for k, part in enumerate(parts) for name in part}

    def turns(self, name, last):
        """Whether it is of use to go through a name that comes last as a part of another one, that it may lead back to.

        A name behind which more can stand is asked for by itself, too, so it is not gone through twice.
        """
        return last == name or last not in self.inner and self._rings[last] == self._rings[name]

    def dot_of(self, symbol):
        """A dot behind which just this symbol has to come, a useful name or any letter."""
        if is_name(symbol):
            return self.roots[symbol]
        if symbol not in self._alone:
            self._alone[symbol] = self._new_dot(-1)
            self.skips.append([])
            self._lead(self._alone[symbol], symbol, OVER)
        return self._alone[symbol]


class Blanks:
    """The numbers of the empty trees of a grammar's useful names, none of which is looped."""

    def __init__(self, grammar, dots):
        # For each nullable name how many empty trees it has.
        self.empties = _empty_trees(grammar, dots)
        # For each name a dict from the dots ahead of which all can be empty to the number of ways; and what names
        # can come first in it, as triples (name, where that leads, number of ways).
        self.zeros = {}
        self.lefts = {}
        for name in dots.roots:
            zeros = self._zeros_of(dots, name)
            self.zeros[name] = zeros
            steps = [(dot, step) for dot in zeros for step in dots.names[dot]]
            self.lefts[name] = [(other, longer, zeros[dot]) for dot, (other, longer) in steps]
        # The names, each ahead of those that can come first in it as well as last.
        self.order = _lone_order(self.lefts)

    def _zeros_of(self, dots, name):
        zeros = {dots.roots[name]: 1}
        for dot in dots.zero_dots(name):
            for other, longer in dots.skips[dot]:
                if longer != OVER:
                    zeros[longer] = zeros[dot] * self.empties[other]
        return zeros

    def called(self, names):
        """A dict of True for the names and all that can come first in them, and in these, and so on."""
        found = {name: True for name in names}
        due = list(found)
        while len(due) > 0:
            name = due.pop()
            for other, _, _ in self.lefts[name]:
                if other not in found:
                    found[other] = True
                    due.append(other)
        return found


def _empty_trees(grammar, dots):
    names = sorted(dots.nullable)
    numbers = {name: k for k, name in enumerate(names)}
    # All rules of a useful name with nullable names alone in their bodies are useful.
    bodies = [[body for head, body in grammar[2] if head == name and _is_blank(body, numbers)] for name in names]
    trees = {}
    for part in components([[numbers[other] for body in own for other in body] for own in bodies]):
        many = 0
        for body in bodies[part[0]]:
            product = 1
            for other in body:
                product *= trees[other]
            many += product
        trees[names[part[0]]] = many
    return trees


def _is_blank(body, numbers):
    return all([symbol in numbers for symbol in body])


def _lone_order(lefts):
    names = sorted(lefts)
    numbers = {name: k for k, name in enumerate(names)}
    leads = [[numbers[other] for other, longer, _ in lefts[name] if longer == OVER] for name in names]
    return [names[part[0]] for part in components(leads)[::-1]]


class Tails:
    """Tails, by number, each there once.

    Tail 0 asks for nothing. Another one is told by its terms, triples (dot, tail, number): what stands behind
    the dot has to come, and then what that tail asks for, for one of the terms; the number tells in how many ways,
    if counted is True, otherwise it is always 1.
    """

    def __init__(self, counted):
        self.terms = [()]
        self._counted = counted
        self._numbers = {}
        self._rings = {}
        # For some names, as a tuple, their tails when they last asked for one another.
        self._before = {}

    def behind(self, dot, tail):
        """The tail that asks for what stands behind the dot, and then for what the tail asks for."""
        return self._tail_of({(dot, tail): 1})

    def _tail_of(self, terms):
        """The tail with these terms; terms has the number for each pair of a dot and a tail."""
        told = _told(terms)
        if len(told) == 1 and told[0][0] == OVER and told[0][2] == 1:
            return told[0][1]
        if told not in self._numbers:
            self._numbers[told] = len(self.terms)
            self.terms.append(told)
        return self._numbers[told]

    def for_names(self, outer, inner):
        """A dict with the tail of each of some names, that may ask for one another.

        outer has for each name its terms, as a dict of numbers by pairs of a dot and a tail; inner has for each
        name a dict of numbers by pairs of a dot and one of the names, in the place of the tail of this name.
        """
        if not any([len(terms) > 0 for terms in inner.values()]):
            return {name: self._tail_of(outer[name]) for name in outer}
        names = tuple(sorted(outer))
        key = tuple([(name, _told(outer[name]), _told(inner[name])) for name in names])
        if key not in self._rings:
            self._rings[key] = self._ring(names, outer, inner)
        self._before[names] = self._rings[key]
        return dict(self._rings[key])

    def _ring(self, names, outer, inner):
        """The tails of names that ask for one another: those of before if they ask for the same, otherwise new ones."""
        before = self._before.get(names)
        if before is not None:
            same = [self._joined(outer, inner, name, before) == self.terms[before[name]] for name in names]
            if all(same):
                return before
        ring = {name: len(self.terms) + k for k, name in enumerate(names)}
        for name in names:
            self.terms.append(self._joined(outer, inner, name, ring))
        return ring

    def _joined(self, outer, inner, name, ring):
        """The terms of a name's tail if the names have the tails of the ring."""
        terms = dict(outer[name])
        for (dot, other), many in inner[name].items():
            pair = (dot, ring[other])
            terms[pair] = terms.get(pair, 0) + many if self._counted else 1
        return _told(terms)


def _told(terms):
    return tuple(sorted([pair + (many,) for pair, many in terms.items()]))
