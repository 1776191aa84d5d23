"""Nullable names, least numbers of letters, and looped names."""

from stillends.bodies import useful_bodies
from stillends.errors import Looped
from stillends.usefulness import least_sizes


def nullable_names(grammar):
    """The nullable names, ascending, useless ones too."""
    return tuple([name for name, letters in enumerate(least_letters(grammar)) if letters == 0])


def least_letters(grammar):
    """For each name the fewest letters of a text that it derives, None if it derives none."""
    return tuple([None if size is None else size[0] for size in least_sizes(grammar)[0]])


def first_looped(grammar):
    """The least looped name, None if there is none."""
    bodies = useful_bodies(grammar)
    # Whoever leads around to itself stands in one list with others: at least with the body on the way.
    rings = [part for part in bodies.lone_parts(nullable_names(grammar)) if len(part) > 1]
    looped = [part - bodies.many for ring in rings for part in ring if part >= bodies.many]
    return min(looped, default=None)


def ask_no_loop(grammar):
    """Looped for the first looped name, if there is one."""
    name = first_looped(grammar)
    if name is not None:
        raise Looped(name)
