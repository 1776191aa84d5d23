"""The texts of a grammar, listed by length."""

from stillends.bodies import useful_bodies
from stillends.checks import ask_short
from stillends.grammars import is_name
from stillends.nulls import least_letters
from stillends.orders import by_length


def texts_upto(grammar, most):
    """All texts of the grammar with no more than most letters, by length."""
    ask_short(most, "most")
    listing = Listing(grammar, most)
    return tuple(by_length(listing.texts_of(grammar[1])))


class Listing:
    """The texts of useful names, and of the beginnings of bodies, as far as they may be in a short text.

    Each part has room for so many letters that some text of the grammar with the part has no more than
    most letters. So no part has more texts than the grammar has short ones.
    """

    def __init__(self, grammar, most):
        self._bodies = useful_bodies(grammar)
        self._rooms = _rooms(grammar, most, self._bodies)
        # For each part a dict of the texts met, and the lists, by length, of those that are put together with others.
        self._met = [{} for _ in self._rooms]
        self._used = [[[] for _ in range(most + 1)] for _ in self._rooms]
        self._due = []
        self._meet(0, "")
        while len(self._due) > 0:
            part, text = self._due.pop()
            self._used[part][len(text)].append(text)
            self._go_on(part, text)

    def texts_of(self, name):
        """The list of the texts of a name for which there is room."""
        return list(self._met[self._bodies.part_of(name)])

    def _meet(self, part, text):
        if len(text) <= self._rooms[part] and text not in self._met[part]:
            self._met[part][text] = True
            self._due.append((part, text))

    def _go_on(self, part, text):
        """Meets what comes of a text of a part, with all used texts of others; this one is used now."""
        bodies = self._bodies
        if part >= bodies.many:
            for longer in bodies.uses[part - bodies.many]:
                for other in self._fitting(bodies.befores[longer], longer, text):
                    self._meet(longer, other + text)
            return
        for name in bodies.ends[part]:
            self._meet(bodies.part_of(name), text)
        for letter, longer in bodies.by_letter[part]:
            self._meet(longer, text + letter)
        for name, longer in bodies.by_name[part]:
            for other in self._fitting(bodies.part_of(name), longer, text):
                self._meet(longer, text + other)

    def _fitting(self, part, longer, text):
        """The used texts of a part that have room, with the text, in the longer one."""
        room = self._rooms[longer] - len(text)
        return [other for texts in self._used[part][:max(room + 1, 0)] for other in texts]


def _rooms(grammar, most, bodies):
    """For each part how many letters it may have within a text of the grammar with at most so many; -1 for none."""
    least = least_letters(grammar)
    rooms = [-1] * (bodies.many + len(grammar[0]))
    rooms[0] = 0
    rooms[bodies.part_of(grammar[1])] = most
    due = [grammar[1]]
    while len(due) > 0:
        name = due.pop()
        for _, whole in bodies.wholes[name]:
            due.extend(_make_room(rooms, bodies, least, whole, rooms[bodies.part_of(name)]))
    return rooms


def _make_room(rooms, bodies, least, whole, room):
    """Gives all along a body the room that is left if all else has its fewest letters: the names with more room now."""
    path = bodies.path_to(whole)[1:]
    lasts = [bodies.lasts[beginning] for beginning in path]
    letters = [least[last] if is_name(last) else 1 for last in lasts]
    spare = room - sum(letters)
    if spare < 0:
        return []
    grown = []
    ahead = 0
    for beginning, last, few in zip(path, lasts, letters):
        ahead += few
        rooms[beginning] = max(rooms[beginning], ahead + spare)
        if is_name(last) and few + spare > rooms[bodies.part_of(last)]:
            rooms[bodies.part_of(last)] = few + spare
            grown.append(last)
    return grown
