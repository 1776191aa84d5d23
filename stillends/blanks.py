"""In how many ways names, and what stands ahead of dots, can be empty."""

from stillends.dots import OVER
from stillends.orders import components


class Blanks:
    """The numbers of the empty trees of a grammar's useful names, none of which is looped."""

    def __init__(self, grammar, dots):
        # For each nullable name how many empty trees it has.
        self.empties = _empty_trees(grammar, dots)
        # For each name a dict from the dots ahead of which all can be empty to the number of ways; and what names
        # can come first in it, as triples (name, where that leads, number of ways).
        self.zeros = {}
        self.lefts = {}
        for name in dots.roots:
            zeros = self._zeros_of(dots, name)
            self.zeros[name] = zeros
            steps = [(dot, step) for dot in zeros for step in dots.names[dot]]
            self.lefts[name] = [(other, longer, zeros[dot]) for dot, (other, longer) in steps]
        # The names, each ahead of those that can come first in it as well as last.
        self.order = _lone_order(self.lefts)

    def _zeros_of(self, dots, name):
        zeros = {dots.roots[name]: 1}
        for dot in dots.zero_dots(name):
            for other, longer in dots.skips[dot]:
                if longer != OVER:
                    zeros[longer] = zeros[dot] * self.empties[other]
        return zeros

    def called(self, names):
        """A dict of True for the names and all that can come first in them, and in these, and so on."""
        found = {name: True for name in names}
        due = list(found)
        while len(due) > 0:
            name = due.pop()
            for other, _, _ in self.lefts[name]:
                if other not in found:
                    found[other] = True
                    due.append(other)
        return found


def _empty_trees(grammar, dots):
    names = sorted(dots.nullable)
    numbers = {name: k for k, name in enumerate(names)}
    # All rules of a useful name with nullable names alone in their bodies are useful.
    bodies = [[body for head, body in grammar[2] if head == name and _is_blank(body, numbers)] for name in names]
    trees = {}
    for part in components([[numbers[other] for body in own for other in body] for own in bodies]):
        many = 0
        for body in bodies[part[0]]:
            product = 1
            for other in body:
                product *= trees[other]
            many += product
        trees[names[part[0]]] = many
    return trees


def _is_blank(body, numbers):
    return all([symbol in numbers for symbol in body])


def _lone_order(lefts):
    names = sorted(lefts)
    numbers = {name: k for k, name in enumerate(names)}
    leads = [[numbers[other] for other, longer, _ in lefts[name] if longer == OVER] for name in names]
    return [names[part[0]] for part in components(leads)[::-1]]
