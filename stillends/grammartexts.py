"""Grammars as lines of text, written and read."""

from stillends.errors import InvalidText, NotUsable
from stillends.grammars import BODY_LIMIT, is_name
from stillends.letters import is_letter, is_word

_SIGN = "'"


def grammar_lines(grammar):
    """The lines of the grammar: the start, and for each name the bodies of its rules."""
    names, start, rules = grammar
    lines = ["start " + names[start]]
    for name, word in enumerate(names):
        bodies = [_body_text(names, body) for head, body in rules if head == name]
        lines.append(word + " =" + (" " + " | ".join(bodies) if len(bodies) > 0 else ""))
    return "\n".join(lines)


def _body_text(names, body):
    if len(body) == 0:
        return "-"
    return " ".join([names[symbol] if is_name(symbol) else _SIGN + symbol + _SIGN for symbol in body])


def read_grammar(text):
    """The grammar with these lines; InvalidText for the first fault."""
    lines = split_lines(text)
    start = _read_start(lines[0])
    if start is None:
        raise InvalidText(0, "form")
    numbers = {}
    told = []
    for line in range(1, len(lines)):
        named = _read_name(lines[line])
        if named is None:
            raise InvalidText(line, "form")
        word, bodies = named
        if word in numbers:
            raise InvalidText(line, "twice")
        numbers[word] = len(numbers)
        told.append(bodies)
    if start not in numbers:
        raise InvalidText(0, "start")
    rules = []
    for name, bodies in enumerate(told):
        rules.extend([(name, body) for body in _bodies_of(name + 1, bodies, numbers)])
    return (tuple(list(numbers)), numbers[start], tuple(rules))


def split_lines(text):
    """The list of the lines of a text; NotUsable("text") if it is none."""
    if not isinstance(text, str):
        raise NotUsable("text")
    return text.split("\n")


def _read_start(line):
    """The word of the start, None if the line is no line of a start."""
    pieces = line.split(" ")
    return pieces[1] if len(pieces) == 2 and pieces[0] == "start" and is_word(pieces[1]) else None


def _read_name(line):
    """The word of a name, and its bodies as lists of pieces; None if the line is no line of a name."""
    pieces = _pieces_of(line)
    if pieces is None or len(pieces) < 2 or not is_word(pieces[0]) or pieces[1] != "=":
        return None
    bodies = []
    if len(pieces) > 2:
        bodies.append([])
    for piece in pieces[2:]:
        if piece == "|":
            bodies.append([])
        else:
            bodies[-1].append(piece)
    return (pieces[0], bodies) if all([_is_body(body) for body in bodies]) else None


def _pieces_of(line):
    """The list of what stands in a line with a blank between any two: letters in signs, and words of any kind.

    None if two blanks stand side by side but for a letter, or one at an end.
    """
    pieces = []
    at = 0
    while True:
        end = line.find(" ", at)
        if line[at : at + 1] == _SIGN:
            end = at + len(_SIGN + " " + _SIGN)
        elif end < 0:
            end = len(line)
        piece = line[at:end]
        if piece == "" or end > len(line) or line[end : end + 1] not in ("", " "):
            return None
        pieces.append(piece)
        if end == len(line):
            return pieces
        at = end + 1


def _is_body(pieces):
    """Whether the pieces are a body: the sign of the empty one, or at least one symbol."""
    return pieces == ["-"] or len(pieces) > 0 and all([is_word(piece) or _is_signed(piece) for piece in pieces])


def _is_signed(piece):
    """Whether a piece is a letter between two signs."""
    return len(piece) == 3 and piece[0] == _SIGN and piece[2] == _SIGN and is_letter(piece[1])


def _bodies_of(line, bodies, numbers):
    """The bodies of a name, from its line's pieces; InvalidText for what is no body of a grammar with these names."""
    known = {}
    for pieces in bodies:
        if not all([piece == "-" or _is_signed(piece) or piece in numbers for piece in pieces]):
            raise InvalidText(line, "name")
    for pieces in bodies:
        if len(pieces) > BODY_LIMIT:
            raise InvalidText(line, "body")
    for pieces in bodies:
        body = tuple([piece[1] if _is_signed(piece) else numbers[piece] for piece in pieces if piece != "-"])
        if body in known:
            raise InvalidText(line, "again")
        known[body] = True
    return list(known)
