"""Libraries: things kept by kind and name, with undo and redo."""

from stillends.books import lets_book
from stillends.checks import is_tuple_of
from stillends.errors import InvalidPaper, NoSuch, NotUsable, NothingToUndo, Taken
from stillends.grammars import lets_grammar
from stillends.letters import is_word
from stillends.sheets import lets_sheet
from stillends.tasks import lets_task
from stillends.tokenlists import lets_tokens
from stillends.writers import lets_writer

_KINDS = ("grammar", "tokens", "book", "writer", "sheet", "task")


class Library:
    """An object that keeps things by kind and name."""

    def __init__(self):
        # The things by pairs of a kind and a name.
        self._things = {}
        # What was done, and what was taken back of it, the last one last: lists of what changed, each a triple of a
        # pair of a kind and a name, and of the things before and behind, None for none.
        self._done = []
        self._undone = []

    def put(self, kind, name, thing):
        """Keeps the thing."""
        _ask_kind(kind)
        _ask_name(name, "name")
        _ask_thing(kind, thing)
        if (kind, name) in self._things:
            raise Taken(kind, name)
        self._do([((kind, name), None, thing)])

    def thing_of(self, kind, name):
        """The thing of the kind with the name."""
        _ask_kind(kind)
        _ask_name(name, "name")
        return self._found(kind, name)

    def names_of(self, kind):
        """The ascending tuple of the names of the kind."""
        _ask_kind(kind)
        return tuple(sorted([name for other, name in self._things if other == kind]))

    def drop(self, kind, name):
        """Forgets the thing."""
        _ask_kind(kind)
        _ask_name(name, "name")
        self._do([((kind, name), self._found(kind, name), None)])

    def rename(self, kind, name, other):
        """Keeps the thing by the name other instead."""
        _ask_kind(kind)
        _ask_name(name, "name")
        _ask_name(other, "other")
        thing = self._found(kind, name)
        if (kind, other) in self._things:
            raise Taken(kind, other)
        self._do([((kind, name), thing, None), ((kind, other), None, thing)])

    def undo(self):
        """Takes back the last change."""
        if len(self._done) == 0:
            raise NothingToUndo()
        changes = self._done.pop()
        for place, before, _ in changes:
            self._set(place, before)
        self._undone.append(changes)

    def redo(self):
        """Does again the last change that was taken back."""
        if len(self._undone) == 0:
            raise NothingToUndo()
        changes = self._undone.pop()
        for place, _, behind in changes:
            self._set(place, behind)
        self._done.append(changes)

    def _found(self, kind, name):
        if (kind, name) not in self._things:
            raise NoSuch(kind, name)
        return self._things[(kind, name)]

    def _do(self, changes):
        for place, _, behind in changes:
            self._set(place, behind)
        self._done.append(changes)
        self._undone = []

    def _set(self, place, thing):
        if thing is None:
            del self._things[place]
        else:
            self._things[place] = thing


def _ask_kind(kind):
    if not isinstance(kind, str) or kind not in _KINDS:
        raise NotUsable("kind")


def _ask_name(name, word):
    if not is_word(name):
        raise NotUsable(word)


def _ask_thing(kind, thing):
    if kind in ("book", "writer") and not is_tuple_of(thing, 2):
        raise NotUsable("thing")
    try:
        _let(kind, thing)
    except InvalidPaper:
        raise NotUsable("thing") from None


def _let(kind, thing):
    """InvalidPaper if thing, a pair where that is needed, is not of the kind."""
    if kind == "grammar":
        lets_grammar(thing)
    elif kind == "tokens":
        lets_tokens(thing)
    elif kind == "sheet":
        lets_sheet(thing)
    elif kind == "task":
        lets_task(thing)
    else:
        tokens, paper = thing
        lets_tokens(tokens)
        if kind == "book":
            lets_book(tokens, paper)
        else:
            lets_writer(tokens, paper)
