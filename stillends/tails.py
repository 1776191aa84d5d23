"""Tails: what is asked to come behind a name, or behind all that has been read."""

from stillends.dots import OVER


class Tails:
    """Tails, by number, each there once.

    Tail 0 asks for nothing. Another one is told by its terms, triples (dot, tail, number): what stands behind
    the dot has to come, and then what that tail asks for, for one of the terms; the number tells in how many ways,
    if counted is True, otherwise it is always 1.
    """

    def __init__(self, counted):
        self.terms = [()]
        self._counted = counted
        self._numbers = {}
        self._rings = {}
        # For some names, as a tuple, their tails when they last asked for one another.
        self._before = {}

    def behind(self, dot, tail):
        """The tail that asks for what stands behind the dot, and then for what the tail asks for."""
        return self._tail_of({(dot, tail): 1})

    def _tail_of(self, terms):
        """The tail with these terms; terms has the number for each pair of a dot and a tail."""
        told = _told(terms)
        if len(told) == 1 and told[0][0] == OVER and told[0][2] == 1:
            return told[0][1]
        if told not in self._numbers:
            self._numbers[told] = len(self.terms)
            self.terms.append(told)
        return self._numbers[told]

    def for_names(self, outer, inner):
        """A dict with the tail of each of some names, that may ask for one another.

        outer has for each name its terms, as a dict of numbers by pairs of a dot and a tail; inner has for each
        name a dict of numbers by pairs of a dot and one of the names, in the place of the tail of this name.
        """
        if not any([len(terms) > 0 for terms in inner.values()]):
            return {name: self._tail_of(outer[name]) for name in outer}
        names = tuple(sorted(outer))
        key = tuple([(name, _told(outer[name]), _told(inner[name])) for name in names])
        if key not in self._rings:
            self._rings[key] = self._ring(names, outer, inner)
        self._before[names] = self._rings[key]
        return dict(self._rings[key])

    def _ring(self, names, outer, inner):
        """The tails of names that ask for one another: those of before if they ask for the same, otherwise new ones."""
        before = self._before.get(names)
        if before is not None:
            same = [self._joined(outer, inner, name, before) == self.terms[before[name]] for name in names]
            if all(same):
                return before
        ring = {name: len(self.terms) + k for k, name in enumerate(names)}
        for name in names:
            self.terms.append(self._joined(outer, inner, name, ring))
        return ring

    def _joined(self, outer, inner, name, ring):
        """The terms of a name's tail if the names have the tails of the ring."""
        terms = dict(outer[name])
        for (dot, other), many in inner[name].items():
            pair = (dot, ring[other])
            terms[pair] = terms.get(pair, 0) + many if self._counted else 1
        return _told(terms)


def _told(terms):
    return tuple(sorted([pair + (many,) for pair, many in terms.items()]))
