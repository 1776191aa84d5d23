"""Stands: what has to come behind a text in a grammar that reads one way."""

from stillends.checks import ask_text, is_below
from stillends.errors import NotUsable, TooMuch
from stillends.firsts import Firsts
from stillends.grammars import is_name, names_in
from stillends.letters import is_letter
from stillends.limits import TREE_LIMIT
from stillends.orders import components
from stillends.predicting import ask_one_way
from stillends.usefulness import useful_parts


def stand_behind(grammar, text):
    """The stand behind the text, None if there is none."""
    ask_text(text)
    way = OneWay(grammar)
    cell = way.first()
    if cell is None:
        return None
    for letter in text:
        pushed = way.pushed(cell, letter)
        if pushed is None:
            return None
        cell = pushed[0]
    return symbols_of(cell)


def push_letter(grammar, stand, letter):
    """The stand that comes of pushing the letter onto the stand, None if there is none."""
    ask_stand(grammar, stand)
    if not is_letter(letter):
        raise NotUsable("letter")
    pushed = OneWay(grammar).pushed(stacked(stand, None), letter)
    return None if pushed is None else symbols_of(pushed[0])


def may_end(grammar, stand):
    """Whether all symbols of the stand are nullable names."""
    ask_stand(grammar, stand)
    return OneWay(grammar).may_end(stacked(stand, None))


def ask_stand(grammar, stand):
    """NotUsable("stand") if stand is not a tuple of letters and of useful names."""
    useful = useful_parts(grammar)[0]
    many = len(grammar[0])
    if not isinstance(stand, tuple):
        raise NotUsable("stand")
    if not all([is_letter(symbol) or is_below(symbol, many) and symbol in useful for symbol in stand]):
        raise NotUsable("stand")


class Cell:
    """The top symbol of a stand, and the cell of what is below it, None if nothing is.

    tail is for those who tell by a number what a stand asks for; None as long as they have not asked for it.
    """

    def __init__(self, top, below):
        self.top = top
        self.below = below
        self.tail = None


def stacked(symbols, below):
    """The cell of a stand with these symbols on top of another one."""
    cell = below
    for symbol in symbols[::-1]:
        cell = Cell(symbol, cell)
    return cell


def symbols_of(cell):
    """The stand as a tuple of symbols, the top first."""
    symbols = []
    while cell is not None:
        symbols.append(cell.top)
        cell = cell.below
    return tuple(symbols)


class OneWay:
    """What a grammar that reads one way goes on with; NotOneWay if it does not.

    Rules read are told in pieces: a piece is the number of a rule, or less than 0 for all rules of the empty
    tree of a name.
    """

    def __init__(self, grammar):
        ask_one_way(grammar)
        self.grammar = grammar
        self.useful = {name: True for name in useful_parts(grammar)[0]}
        firsts = Firsts(grammar)
        # For each name its useful rules; the rule that begins with each letter; and the rule that can be empty.
        self.rules_from = {name: [] for name in self.useful}
        self._by_letter = {name: {} for name in self.useful}
        self._blanks = {}
        for rule in useful_parts(grammar)[1]:
            head, body = grammar[2][rule]
            self.rules_from[head].append(rule)
            for letter in firsts.of_body(body):
                self._by_letter[head][letter] = rule
            if firsts.can_be_empty(body):
                self._blanks[head] = rule
        self.sizes = self._empty_sizes()

    def _empty_sizes(self):
        """For each useful nullable name how many rules its only empty tree has; this may be any number."""
        names = sorted(self._blanks)
        numbers = {name: k for k, name in enumerate(names)}
        below = [names_in(self.grammar[2][self._blanks[name]][1]) for name in names]
        sizes = {}
        for part in components([[numbers[other] for other in others] for others in below]):
            sizes[names[part[0]]] = 1 + sum([sizes[other] for other in below[part[0]]])
        return sizes

    def first(self):
        """The stand behind the empty text, a cell; None if the grammar has no text."""
        return Cell(self.grammar[1], None) if self.grammar[1] in self.useful else None

    def pushed(self, cell, letter):
        """The stand that comes of pushing the letter, and the list of pieces read; None if there is none."""
        pieces = []
        while cell is not None and is_name(cell.top):
            name = cell.top
            if letter in self._by_letter[name]:
                rule = self._by_letter[name][letter]
                pieces.append(rule)
                cell = stacked(self.grammar[2][rule][1], cell.below)
            elif name in self._blanks:
                pieces.append(_piece_of(name))
                cell = cell.below
            else:
                return None
        if cell is None or cell.top != letter:
            return None
        return (cell.below, pieces)

    def may_end(self, cell):
        """Whether all symbols of a stand are nullable names."""
        return self.last_pieces(cell) is not None

    def last_pieces(self, cell):
        """The list of the pieces read if a stand ends; None if it may not end."""
        pieces = []
        while cell is not None:
            if cell.top not in self._blanks:
                return None
            pieces.append(_piece_of(cell.top))
            cell = cell.below
        return pieces

    def next_letters(self, cell):
        """The ascending list of the letters that can be pushed onto a stand."""
        found = {}
        while cell is not None:
            if not is_name(cell.top):
                found[cell.top] = True
                return sorted(found)
            for letter in self._by_letter[cell.top]:
                found[letter] = True
            cell = cell.below if cell.top in self._blanks else None
        return sorted(found)

    def rules_of(self, pieces):
        """The tuple of the rules that the pieces tell; TooMuch("tree") if they are too many."""
        if sum([self.sizes[_name_of(piece)] if piece < 0 else 1 for piece in pieces]) > TREE_LIMIT:
            raise TooMuch("tree")
        rules = []
        for piece in pieces:
            if piece >= 0:
                rules.append(piece)
            else:
                rules.extend(self._empty_tree(_name_of(piece)))
        return tuple(rules)

    def _empty_tree(self, name):
        """The list of the rules of a name's only empty tree."""
        rules = []
        due = [name]
        while len(due) > 0:
            rule = self._blanks[due.pop()]
            rules.append(rule)
            due.extend(names_in(self.grammar[2][rule][1])[::-1])
        return rules


def _piece_of(name):
    return -1 - name


def _name_of(piece):
    return -1 - piece
