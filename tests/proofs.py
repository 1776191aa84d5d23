"""What the document asks of answers that show something, worked out plainly for small cases, and answers bent."""

from stillends.closedlists import closed_list
from stillends.floors import floor_holds
from stillends.members import in_grammar
from stillends.needing import need
from stillends.respells import rows_of
from stillends.spellers import priced, speller
from stillends.tapes import tapes_of
from stillends.tasks import is_good
from stillends.tokenlists import is_row
from tests.definitions import runs_along, threes_by_growing, ways_of
from tests.test_usefulness import parts_by_sets

# What an element is put in the place of, to bend an answer.
STRANGE = (None, True, False, -1, 0, 1, 2, 10**59, "", "a", "ab", (), (0,), [], [0], (0, 0, 0), ((),))


def is_number(thing):
    return isinstance(thing, int) and not isinstance(thing, bool) and thing >= 0


def is_tuple_of(thing, many):
    return isinstance(thing, tuple) and len(thing) == many


def are_places(thing, many):
    return isinstance(thing, tuple) and all(is_number(part) and part < many for part in thing)


def spelled_by(task):
    _, tokens, book, begun, mode = task
    return speller(tokens, book, begun, mode)


def states_by_sets(task, question):
    """The count, arcs and barred states of the machine for a question, by the definition."""
    places, finals, steps = spelled_by(task)
    letters = sorted({symbol for _, body in task[0][2] for symbol in body if isinstance(symbol, str)})
    begun = task[3]

    def led(from_places, letter, drop=()):
        return tuple(sorted({q for p, c, q, t in steps if p in from_places and c == letter and t not in drop}))

    def behind(state, letter):
        if question == "spelled":
            j, those = state
            if j < len(begun) and letter != begun[j]:
                return []
            return [(min(j + 1, len(begun)), led(those, letter))]
        if question == "one":
            p, q, parted = state
            ones = [(there, t) for here, c, there, t in steps if here == p and c == letter]
            others = [(there, t) for here, c, there, t in steps if here == q and c == letter]
            return sorted({(x, y, parted or t != u) for x, t in ones for y, u in others})
        p, used, those = state
        drop = question[1]
        ones = [(there, t) for here, c, there, t in steps if here == p and c == letter]
        return sorted({(x, used or t in drop, led(those, letter, drop)) for x, t in ones})

    def is_barred(state):
        if question == "spelled":
            return state[0] == len(begun) and not set(state[1]) & set(finals)
        if question == "one":
            return state[2] and state[0] in finals and state[1] in finals
        return state[1] and state[0] in finals and not set(state[2]) & set(finals)

    first = (0, 0, False) if question == "one" else (0, (0,)) if question == "spelled" else (0, False, (0,))
    states = [first]
    arcs = []
    for k, state in enumerate(states):
        for letter in letters:
            for there in behind(state, letter):
                if there not in states:
                    states.append(there)
                arcs.append((k, letter, states.index(there), 1))
    return ((len(states), tuple(sorted(arcs))), tuple(k for k, state in enumerate(states) if is_barred(state)))


def takes_texts(task, question, answer):
    """Whether answer is one to a question about all texts, by the conditions."""
    machine, barred = states_by_sets(task, question)
    grammar, _, _, begun, _ = task
    barred_items = [(0, grammar[1], b) for b in barred]
    words = {"spelled": ("all", "none"), "one": ("one", "two")}.get(question, ("needless", "needed"))
    if is_tuple_of(answer, 2) and answer[0] == words[0]:
        return closed_list(grammar, machine, answer[1]) and not any(item in answer[1] for item in barred_items)
    many = 5 if question == "one" else 3
    if not is_tuple_of(answer, many) or answer[0] != words[1]:
        return False
    text, table = answer[1], answer[-1]
    if not isinstance(text, str) or not all(" " <= c <= "~" and c != "%" for c in text):
        return False
    if not in_grammar(grammar, text) or not text.startswith(begun):
        return False
    rows = rows_of(task, text)
    if question == "spelled" and rows:
        return False
    if question == "one":
        row, other = answer[2:4]
        if not is_row(task[1], row) or not is_row(task[1], other) or row == other:
            return False
        if row not in rows or other not in rows:
            return False
    if isinstance(question, tuple) and (not rows or any(not set(row) & set(question[1]) for row in rows)):
        return False
    if not floor_holds(grammar, machine, table):
        return False
    return not any(row[:3] in barred_items and row[3] < len(text) for row in table)


class PlainPositions:
    """Positions and moves as [94] tells of them, with tuples."""

    def __init__(self, task):
        self.grammar, tokens, book, begun, self.mode = task
        self.begun = begun
        self.places, self.finals, _ = spelled_by(task)
        self.machine = priced(tokens, book, begun, self.mode)
        self.prices = {item: three[0] for item, three in threes_by_growing(self.grammar, self.machine).items()}
        self.rules = parts_by_sets(self.grammar)[1]

    def back(self, rest, those):
        found = set(those)
        for symbol in rest[::-1]:
            if isinstance(symbol, str):
                found = {p for p, c, q, _ in self.machine[1] if c == symbol and q in found}
            else:
                found = {p for p, name, q in self.prices if name == symbol and q in found}
        return tuple(sorted(found))

    def firsts(self):
        return [(r, 0, self.finals, 0) for r in self.rules if self.grammar[2][r][0] == self.grammar[1]]

    def moves(self, position):
        rule, dot, those, p = position
        body = self.grammar[2][rule][1]
        if dot == len(body):
            return []
        symbol = body[dot]
        if isinstance(symbol, str):
            return [(price, (rule, dot + 1, those, q)) for x, c, q, price in self.machine[1] if (x, c) == (p, symbol)]
        below = self.back(body[dot + 1 :], those)
        found = [(0, (r, 0, below, p)) for r in self.rules if self.grammar[2][r][0] == symbol]
        items = [(price, q) for (x, name, q), price in self.prices.items() if (x, name) == (p, symbol)]
        return found + [(price, (rule, dot + 1, those, q)) for price, q in items]

    def is_barred(self, position):
        rule, dot, those, p = position
        body = self.grammar[2][rule][1]
        if dot == 0 or not isinstance(body[dot - 1], str):
            return False
        i, _, written = self.places[p]
        border = written == "" and (self.mode != "behind" or i == len(self.begun))
        return border and p not in self.back(body[dot:], those)

    def is_position(self, thing):
        if not is_tuple_of(thing, 4):
            return False
        rule, dot, those, p = thing
        if not is_number(rule) or rule not in self.rules or not is_number(dot):
            return False
        if dot > len(self.grammar[2][rule][1]) or not is_number(p) or p >= len(self.places):
            return False
        return are_places(those, len(self.places)) and list(those) == sorted(set(those))


def takes_careless(task, answer, lets):
    """Whether answer is one to "careless", by the conditions; lets tells the choices let at a row."""
    if need(task, ()) is None:
        return answer == ("lost", (), ())
    plain = PlainPositions(task)
    if is_tuple_of(answer, 2) and answer[0] == "never":
        told = answer[1]
        if not isinstance(told, tuple) or not all(plain.is_position(position) for position in told):
            return False
        known = set(told)
        led = plain.firsts() + [there for position in known for _, there in plain.moves(position)]
        return len(known) == len(told) and known >= set(led) and not any(plain.is_barred(p) for p in known)
    if not is_tuple_of(answer, 3) or answer[0] != "lost" or not is_row(task[1], answer[1]):
        return False
    _, row, table = answer
    if need(task, row) is not None or not all(row[k] in lets(task, row[:k]) for k in range(len(row))):
        return False
    if not isinstance(table, tuple) or not all(is_tuple_of(told, 5) for told in table):
        return False
    if not all(plain.is_position(t[:4]) and isinstance(t[4], int) and not isinstance(t[4], bool) for t in table):
        return False
    costs = {told[:4]: told[4] for told in table}
    if len(costs) < len(table) or not all(costs.get(first, 1) <= 0 for first in plain.firsts()):
        return False
    for position, cost in costs.items():
        if plain.is_barred(position) and cost < len(row):
            return False
        for price, there in plain.moves(position):
            if len(row) > cost + price and costs.get(there, len(row)) > cost + price:
                return False
    return True


def takes_longest(task, answer):
    """Whether answer is one to "longest", by the conditions."""
    grammar, tokens, book, begun, mode = task
    machine = priced(tokens, book, begun, mode)
    finals = spelled_by(task)[1]
    whole = [(0, grammar[1], final) for final in finals]
    if is_tuple_of(answer, 2) and answer[0] == "none":
        return closed_list(grammar, machine, answer[1]) and not any(item in answer[1] for item in whole)
    if is_tuple_of(answer, 2) and answer[0] == "endless":
        return takes_endless(grammar, machine, finals, answer[1])
    if not is_tuple_of(answer, 3) or answer[0] != "most":
        return False
    _, row, table = answer
    if not is_row(tokens, row) or not is_good(task, row) or not isinstance(table, tuple):
        return False
    if not all(is_tuple_of(told, 4) and all(is_number(part) for part in told) for told in table):
        return False
    if not all(p < machine[0] and q < machine[0] and name < len(grammar[0]) for p, name, q, _ in table):
        return False
    numbers = {told[:3]: told[3] for told in table}
    items = {item: 0 for item in threes_by_growing(grammar, machine)}
    if len(numbers) < len(table) or any(item in items and item not in numbers for item in whole):
        return False
    if any(numbers.get(item, 0) > len(row) for item in whole):
        return False
    # Where a number is not told, one that is too great stands, so that no run may go along it.
    known = {item: numbers.get(item, 10**80) for item in items}
    for (p, name, q), number in numbers.items():
        bodies = [body for head, body in grammar[2] if head == name]
        if any(there == q and total > number for body in bodies for there, total in runs_along(body, p, machine, known)):
            return False
    return True


def letters_about(grammar, thing, root, name):
    """The letters ahead of the element -1 and behind it if thing is a tree with one whole tree of name replaced."""
    if not isinstance(thing, tuple) or not all(isinstance(part, int) and not isinstance(part, bool) for part in thing):
        return None
    if thing.count(-1) != 1:
        return None
    due, told, rest = [root], [], list(thing)
    while due:
        symbol = due.pop(0)
        if isinstance(symbol, str):
            told.append(symbol)
        elif rest and rest[0] == -1 and symbol == name:
            told.append(rest.pop(0))
        elif rest and 0 <= rest[0] < len(grammar[2]) and grammar[2][rest[0]][0] == symbol:
            due = list(grammar[2][rest.pop(0)][1]) + due
        else:
            return None
    if rest:
        return None
    at = told.index(-1)
    return ("".join(told[:at]), "".join(told[at + 1 :]))


def takes_endless(grammar, machine, finals, thing):
    """Whether thing is the second element of an endless answer, by the conditions."""
    if not is_tuple_of(thing, 3):
        return False
    outer, inner, tree = thing
    for name in range(len(grammar[0])):
        outside = letters_about(grammar, outer, grammar[1], name)
        inside = letters_about(grammar, inner, name, name)
        # A tree of the name has the letters that stand ahead of and behind a hole that is put behind it.
        middle = letters_of_whole(grammar, tree, name)
        if outside is None or inside is None or middle is None or inside == ("", ""):
            continue
        states = range(machine[0])
        ends = {
            (p, text): {told[0][-1] for told in ways_of(machine, p, text)}
            for p in states
            for text in (*outside, *inside, middle)
        }
        for p in ends[(0, outside[0])]:
            for q in ends[(p, middle)]:
                if p in ends[(p, inside[0])] and q in ends[(q, inside[1])] and ends[(q, outside[1])] & set(finals):
                    return True
    return False


def letters_of_whole(grammar, thing, name):
    """The letters of a tree of the name, None if it is none."""
    if not isinstance(thing, tuple) or not all(is_number(part) and part < len(grammar[2]) for part in thing):
        return None
    due, text, rest = [name], "", list(thing)
    while due:
        symbol = due.pop(0)
        if isinstance(symbol, str):
            text += symbol
        elif rest and grammar[2][rest[0]][0] == symbol:
            due = list(grammar[2][rest.pop(0)][1]) + due
        else:
            return None
    return None if rest else text


def takes_likeliest(task, writer, budget, answer):
    """Whether answer is a likeliest one, by the conditions."""
    if not is_tuple_of(answer, 3):
        return False
    row, tapes, ceilings = answer
    if not is_number(tapes) or not isinstance(ceilings, tuple):
        return False
    if row is None:
        if tapes != 0:
            return False
    elif not is_row(task[1], row) or len(row) > budget or not is_good(task, row) or tapes == 0:
        return False
    elif tapes_of(task[1], writer, row, budget) != tapes:
        return False
    _, finals, steps = spelled_by(task)
    states, many = len(writer[1]), len(spelled_by(task)[0])
    bounds = (many, states, len(task[0][0]), many, states, budget + 1)
    entries = {}
    for entry in ceilings:
        if not is_tuple_of(entry, 7) or not all(is_number(part) for part in entry):
            return False
        if not all(part < bound for part, bound in zip(entry, bounds)) or entry[:6] in entries:
            return False
        entries[entry[:6]] = entry[6]
    for (p, a, name, q, b, k), number in entries.items():
        if (p, a, name) == (0, 0, task[0][1]) and q in finals:
            if number * writer[1][b][-1] * writer[0] ** (budget - k) > tapes:
                return False
    for head, body in task[0][2]:
        for p in range(many):
            for a in range(states):
                for q, b, k, product in runs_with_products(body, p, a, steps, writer, entries):
                    if k <= budget and entries.get((p, a, head, q, b, k), -1) < product:
                        return False
    return True


def runs_with_products(body, p, a, steps, writer, entries):
    """All runs along a body as (place, state, number of tokens, product)."""
    found = [(p, a, 0, 1)]
    for symbol in body:
        more = []
        for here, state, k, product in found:
            if isinstance(symbol, str):
                for x, c, there, token in steps:
                    if (x, c) == (here, symbol) and token < 0:
                        more.append((there, state, k, product))
                    elif (x, c) == (here, symbol) and writer[1][state][token]:
                        weight = writer[1][state][token]
                        more.append((there, writer[2][state][token], k + 1, product * weight))
            else:
                for (x, b, name, there, behind, many), number in entries.items():
                    if (x, b, name) == (here, state, symbol):
                        more.append((there, behind, k + many, product * number))
        found = more
    return found


def bent(chance, thing, depth=0):
    """The value with one element somewhere in it changed, left out, doubled or put elsewhere; mostly deep within."""
    if isinstance(thing, tuple) and thing and chance.random() < (0.98 if depth < 2 else 0.95):
        at = len(thing) - 1 if depth == 0 and chance.random() < 0.6 else chance.randrange(len(thing))
        how = chance.random() + (0 if depth == 1 else 0.45)
        if how < 0.3:
            return thing[:at] + thing[at + 1 :]
        if how < 0.4:
            return thing[:at] + (thing[at], thing[at]) + thing[at + 1 :]
        if how < 0.5:
            return thing[:at] + thing[at + 1 :] + (thing[at],)
        return thing[:at] + (bent(chance, thing[at], depth + 1),) + thing[at + 1 :]
    if isinstance(thing, int) and not isinstance(thing, bool) and chance.random() < 0.9:
        return thing + chance.choice((-1, 1, 1, 2))
    if isinstance(thing, str) and chance.random() < 0.7:
        return thing + chance.choice("ab") if chance.random() < 0.5 else thing[1:]
    if isinstance(thing, tuple) and chance.random() < 0.3:
        return list(thing)
    return chance.choice(STRANGE)
