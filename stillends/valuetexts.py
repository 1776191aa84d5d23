"""The texts of the values of a sheet, written and read."""

from stillends.checks import ask_text
from stillends.errors import NoValue
from stillends.formvalues import fits

# With more letters no integer of a form is written.
_INTEGER_LIMIT = 9


def value_text(sheet, value):
    """The text of the value; NoValue if it is none of the sheet."""
    if not fits(sheet, value):
        raise NoValue()
    return _written(value)


def text_value(sheet, text):
    """The value of the sheet with the text; NoValue if there is none."""
    ask_text(text)
    reader = ValueReader(text)
    # What is read is written again, as the text may also be another one that reads so.
    if not reader.read() or not fits(sheet, reader.value) or _written(reader.value) != text:
        raise NoValue()
    return reader.value


def _written(value):
    """The text of any value of a form."""
    pieces = []
    # What is still to be written, the next one last: pairs of a piece and None, or of None and a tuple with a value.
    due = [(None, (value,))]
    while len(due) > 0:
        piece, held = due.pop()
        if held is None:
            pieces.append(piece)
        elif isinstance(held[0], list):
            due.extend(_list_pieces(held[0])[::-1])
        elif isinstance(held[0], tuple):
            due.extend(_record_pieces(held[0])[::-1])
        else:
            pieces.append(_plain_text(held[0]))
    return "".join(pieces)


def _plain_text(value):
    if value is None:
        return "null"
    if isinstance(value, bool):
        return "true" if value else "false"
    return str(value) if isinstance(value, int) else "\"" + value + "\""


def _list_pieces(values):
    pieces = [("[", None)]
    for k, value in enumerate(values):
        pieces.extend([("," if k > 0 else "", None), (None, (value,))])
    pieces.append(("]", None))
    return pieces


def _record_pieces(pairs):
    pieces = [("{", None)]
    for k, (key, value) in enumerate(pairs):
        pieces.extend([("," if k > 0 else "", None), (_plain_text(key) + ":", None), (None, (value,))])
    pieces.append(("}", None))
    return pieces


class ValueReader:
    """Reads a text as that of some value, of any form; the value may have another text, too."""

    def __init__(self, text):
        self._text = text
        self._at = 0
        # The lists and records that are being read, the innermost last: lists of their values, or of their pairs; and
        # for each of them the list of its keys, None for a list.
        self._inside = []
        self._named = []
        self.value = None

    def read(self):
        """Whether the text is read; value is then what it says."""
        going_on = self._begin()
        while going_on:
            self._end()
            if len(self._inside) == 0:
                return self._at == len(self._text)
            going_on = self._takes(",") and self._reads_key() and self._begin()
        return False

    def _begin(self):
        """Reads up to the next value that has no others in it, and this; whether one is there."""
        while self._takes("[") or self._takes("{"):
            is_list = self._text[self._at - 1] == "["
            self._inside.append([])
            self._named.append(None if is_list else [])
            if self._takes("]" if is_list else "}"):
                self._close()
                return True
            if not self._reads_key():
                return False
        return self._reads_plain()

    def _end(self):
        """Puts the value that was read where it belongs, and ends all that ends with it."""
        while len(self._inside) > 0:
            keys = self._named[-1]
            self._inside[-1].append(self.value if keys is None else (keys[-1], self.value))
            if not self._takes("]" if keys is None else "}"):
                return
            self._close()

    def _close(self):
        parts = self._inside.pop()
        self.value = parts if self._named.pop() is None else tuple(parts)

    def _takes(self, sign):
        """Goes on behind the sign if it comes next; whether it does."""
        if self._text[self._at : self._at + 1] != sign:
            return False
        self._at += 1
        return True

    def _reads_key(self):
        """Reads the key ahead of a value; whether it is there. In a list there is none."""
        keys = self._named[-1]
        if keys is None:
            return True
        if not self._takes("\"") or not self._reads_string() or not self._takes(":"):
            return False
        keys.append(self.value)
        return True

    def _reads_string(self):
        end = self._text.find("\"", self._at)
        if end < 0:
            return False
        self.value = self._text[self._at : end]
        self._at = end + 1
        return True

    def _reads_plain(self):
        if self._takes("\""):
            return self._reads_string()
        for word, value in (("true", True), ("false", False), ("null", None)):
            if self._text[self._at : self._at + len(word)] == word:
                self.value = value
                self._at += len(word)
                return True
        return self._reads_integer()

    def _reads_integer(self):
        begin = self._at
        self._takes("-")
        while self._at - begin < _INTEGER_LIMIT and self._text[self._at : self._at + 1].isdigit():
            self._at += 1
        figures = self._text[begin : self._at]
        if figures in ("", "-"):
            return False
        self.value = int(figures)
        return True
