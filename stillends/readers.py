"""Readers: objects that read the texts of a grammar that reads one way, letter by letter."""

from stillends.errors import NotUsable
from stillends.letters import is_letter
from stillends.stands import OneWay, symbols_of


class Reader:
    """An object that reads letters as long as some text of the grammar begins with them."""

    def __init__(self, grammar):
        self._way = OneWay(grammar)
        self._letters = []
        self._read = []
        self._has_texts = self._way.first() is not None
        self._cell = self._way.first()

    def push(self, letter):
        """Reads the letter if some text of the grammar goes on with it; tells whether it does."""
        if not is_letter(letter):
            raise NotUsable("letter")
        pushed = self._way.pushed(self._cell, letter)
        if pushed is None:
            return False
        self._cell, pieces = pushed
        self._read.extend(pieces)
        self._letters.append(letter)
        return True

    def text(self):
        """What has been read."""
        return "".join(self._letters)

    def stand(self):
        """The stand behind what has been read, None if the grammar has no text."""
        return symbols_of(self._cell) if self._has_texts else None

    def rules(self):
        """The rules read while the letters were pushed."""
        return self._way.rules_of(self._read)

    def end(self):
        """The only tree of what has been read, None if it is no text of the grammar."""
        last = self._way.last_pieces(self._cell) if self._has_texts else None
        return None if last is None else self._way.rules_of(self._read + last)
