"""Patterns: whether something is one, and which texts it matches."""

from stillends.checks import ask_text, is_ascending, is_tuple_of
from stillends.closures import bits
from stillends.errors import InvalidPaper
from stillends.letters import is_letter


def lets_pattern(thing):
    """How many patterns are in thing, itself, too, if it is a pattern; otherwise InvalidPaper("shape", -1)."""
    many = 0
    due = [thing]
    while len(due) > 0:
        pattern = due.pop()
        if not _is_shaped(pattern):
            raise InvalidPaper("shape", -1)
        many += 1
        if pattern[0] in ("row", "or"):
            due.extend(pattern[1])
        elif pattern[0] in ("star", "plus", "maybe"):
            due.append(pattern[1])
    return many


def _is_shaped(thing):
    """Whether thing is a pattern, whatever its parts are."""
    if not is_tuple_of(thing, 2) or not isinstance(thing[0], str):
        return False
    word, part = thing
    if word == "letter":
        return is_letter(part)
    if word == "any":
        return _are_letters(part)
    if word in ("row", "or"):
        return isinstance(part, tuple) and (word == "row" or len(part) > 0)
    return word in ("star", "plus", "maybe")


def _are_letters(thing):
    if not isinstance(thing, tuple) or len(thing) == 0:
        return False
    return all([is_letter(sign) for sign in thing]) and is_ascending(thing)


def matches(pattern, text):
    """Whether the pattern matches the text."""
    ask_text(text)
    strokes = Strokes(pattern)
    states = strokes.first()
    for letter in text:
        states = strokes.behind(states, letter)
    return strokes.is_end(states)


class Strokes:
    """The letters of a pattern, each at its place: a stroke is one that was just read, stroke 0 the begin of a text.

    Sets of strokes are integers, as in closures.
    """

    def __init__(self, pattern):
        # For each letter the set of its strokes; and for each stroke the set of those that may come behind it.
        self._of_letter = {}
        self._nexts = [0]
        firsts, lasts, empty = self._laid_out(pattern)
        self._nexts[0] = firsts
        self._ends = lasts | 1 if empty else lasts

    def _laid_out(self, pattern):
        """The sets of the strokes with which a pattern can begin and end, and whether it can be empty."""
        word, part = pattern
        if word in ("letter", "any"):
            own = 1 << len(self._nexts)
            self._nexts.append(0)
            for letter in part:
                self._of_letter[letter] = self._of_letter.get(letter, 0) | own
            return (own, own, False)
        if word in ("row", "or"):
            told = [self._laid_out(inner) for inner in part]
            return self._in_row(told) if word == "row" else _joined(told)
        firsts, lasts, empty = self._laid_out(part)
        if word != "maybe":
            self._put_behind(lasts, firsts)
        return (firsts, lasts, empty or word != "plus")

    def _in_row(self, told):
        """What _laid_out tells of a row, from what it tells of its parts."""
        firsts = 0
        lasts = 0
        empty = True
        for part_firsts, part_lasts, part_empty in told:
            self._put_behind(lasts, part_firsts)
            firsts = firsts | part_firsts if empty else firsts
            lasts = lasts | part_lasts if part_empty else part_lasts
            empty = empty and part_empty
        return (firsts, lasts, empty)

    def _put_behind(self, strokes, others):
        for stroke in bits(strokes):
            self._nexts[stroke] |= others

    def first(self):
        """The set of strokes at the begin of a text."""
        return 1

    def all_letters(self):
        """The ascending list of all letters of the pattern."""
        return sorted(self._of_letter)

    def behind(self, strokes, letter):
        """The set of the strokes, with this letter, that may come behind some."""
        reached = 0
        for stroke in bits(strokes):
            reached |= self._nexts[stroke]
        return reached & self._of_letter.get(letter, 0)

    def is_end(self, strokes):
        """Whether the pattern matches what has been read if one of these strokes came last."""
        return strokes & self._ends > 0

    def covers(self):
        """For each stroke the set of those, other than it, that are of no use beside it.

        What can come behind such a one, up to an end, can come behind the stroke, too. Of strokes that are of no use
        beside one another it is the greater ones.
        """
        many = len(self._nexts)
        all_strokes = (1 << many) - 1
        # For each stroke the set of those that may stand for it; fewer and fewer of these remain.
        standing = [self._ends if self._ends >> stroke & 1 else all_strokes for stroke in range(many)]
        kinds = sorted({strokes for strokes in self._of_letter.values()})
        changed = True
        while changed:
            changed = False
            for stroke in range(many):
                others = bits(standing[stroke])
                for other in others:
                    if not self._follows(other, stroke, standing, kinds):
                        standing[stroke] ^= 1 << other
                        changed = True
        covers = [0] * many
        for stroke in range(many):
            for other in bits(standing[stroke]):
                if other < stroke or other > stroke and standing[other] >> stroke & 1 == 0:
                    covers[other] |= 1 << stroke
        return covers

    def _follows(self, other, stroke, standing, kinds):
        """Whether for each stroke behind this one, with each of its letters, one behind the other stands for it.

        kinds are the sets of the strokes that letters have.
        """
        for step in bits(self._nexts[stroke]):
            fitting = standing[step] & self._nexts[other]
            if not all([fitting & strokes > 0 for strokes in kinds if strokes >> step & 1]):
                return False
        return True


def _joined(told):
    """What is told of a pattern that is any of its parts, from what is told of these."""
    firsts = 0
    lasts = 0
    for part_firsts, part_lasts, _ in told:
        firsts |= part_firsts
        lasts |= part_lasts
    return (firsts, lasts, any([empty for _, _, empty in told]))
