"""Whether answers to questions about all texts, careless writers and longest rows show what they say."""

from stillends.checks import is_below, is_tuple_of
from stillends.closedlists import closed_list
from stillends.closures import bits
from stillends.endless import shows_endless
from stillends.errors import NotUsable
from stillends.floors import floor_holds
from stillends.grammars import is_name
from stillends.itemtables import Items
from stillends.letters import is_int, is_number, is_text
from stillends.longestrows import goal_ends, greatest_sum
from stillends.members import is_derived
from stillends.needing import outlook_at
from stillends.positions import Positions
from stillends.predicting import ask_one_way
from stillends.setmachines import is_question, set_machine
from stillends.tasks import letters_behind
from stillends.tokenlists import is_row

# The first elements of answers, by their questions: of those with items, and of those with a text and a table.
_WORDS = {"spelled": ("all", "none"), "one": ("one", "two"), "needless": ("needless", "needed")}


def judge(task, question, answer):
    """Whether answer is one that the function for the question may return."""
    if is_question(task[1], question):
        return _judge_texts(task, question, answer)
    if not isinstance(question, str) or question not in ("careless", "longest"):
        raise NotUsable("question")
    if question == "longest":
        return _judge_longest(task, answer)
    ask_one_way(task[0])
    return _judge_careless(task, answer)


def _judge_texts(task, question, answer):
    machine, barred = set_machine(task, question)
    grammar = task[0]
    goals = {(0, grammar[1], state): True for state in barred}
    word, other = _WORDS[question if isinstance(question, str) else question[0]]
    if is_tuple_of(answer, 2) and answer[0] == word:
        return closed_list(grammar, machine, answer[1]) and not any([item in goals for item in answer[1]])
    if not is_tuple_of(answer, 5 if question == "one" else 3) or answer[0] != other:
        return False
    text, table = answer[1], answer[-1]
    if not is_text(text) or not _leads_to(machine, text, barred) or not is_derived(grammar, text):
        return False
    if question == "one" and not _are_rows(task, text, answer[2], answer[3]):
        return False
    if not floor_holds(grammar, machine, table):
        return False
    return all([row[:3] not in goals or row[3] >= len(text) for row in table])


def _leads_to(machine, text, barred):
    """Whether a way from the first state to a barred one reads the text."""
    steps = {}
    for here, letter, there, _ in machine[1]:
        steps.setdefault((here, letter), []).append(there)
    states = [0]
    for letter in text:
        states = sorted({there for state in states for there in steps.get((state, letter), [])})
    return any([state in barred for state in states])


def _are_rows(task, text, row, other):
    """Whether the two are different rows that the book takes, and behind which the text is the letters read."""
    if not is_row(task[1], row) or not is_row(task[1], other) or row == other:
        return False
    return _spells(task, row, text) and _spells(task, other, text)


def _spells(task, row, text):
    return letters_behind(task, row) == text and outlook_at(task, row).is_good()


def _judge_careless(task, answer):
    if outlook_at(task, ()).need() is None:
        return answer == ("lost", (), ())
    positions = Positions(task)
    if is_tuple_of(answer, 2) and answer[0] == "never":
        return _are_closed(positions, answer[1])
    if not is_tuple_of(answer, 3) or answer[0] != "lost":
        return False
    _, row, table = answer
    if not is_row(task[1], row) or not isinstance(table, tuple):
        return False
    outlook = outlook_at(task, row)
    return outlook.is_begun() and outlook.need() is None and _holds(positions, table, len(row))


def _are_closed(positions, thing):
    """Whether thing is a tuple of different positions, with the first ones and all led to, and none barred."""
    if not isinstance(thing, tuple):
        return False
    known = {}
    for told in thing:
        position = positions.read(told)
        if position is None or position in known or positions.is_barred(position):
            return False
        known[position] = True
    if not all([position in known for position in positions.firsts()]):
        return False
    for position in known:
        if not all([there in known for _, there in positions.moves_from(position)]):
            return False
    return True


def _holds(positions, table, most):
    """Whether the table shows that no barred position is led to by moves that cost less than so many tokens."""
    costs = {}
    for told in table:
        position = positions.read(told[:-1]) if is_tuple_of(told, 5) and is_int(told[-1]) else None
        if position is None or position in costs:
            return False
        costs[position] = told[-1]
    if not all([position in costs and costs[position] <= 0 for position in positions.firsts()]):
        return False
    for position, cost in costs.items():
        if cost < most and positions.is_barred(position):
            return False
        for price, there in positions.moves_from(position):
            if cost + price < most and (there not in costs or costs[there] > cost + price):
                return False
    return True


def _judge_longest(task, answer):
    if is_tuple_of(answer, 3) and answer[0] == "most":
        row = answer[1]
        return is_row(task[1], row) and outlook_at(task, row).is_good() and _is_longest(task, row, answer[2])
    if not is_tuple_of(answer, 2):
        return False
    if answer[0] == "endless":
        return shows_endless(task, answer[1])
    items = Items(task)
    finals = items.ground.finals
    if answer[0] != "none" or not closed_list(task[0], items.machine, answer[1]):
        return False
    return not any([item[:2] == (0, task[0][1]) and item[2] in finals for item in answer[1]])


def _is_longest(task, row, table):
    """Whether the table shows that no good row has more tokens than this one."""
    items = Items(task)
    numbers = _numbers_told(task, items, table)
    if numbers is None:
        return False
    start = task[0][1]
    goals = {(0, items.bodies.part_of(start), there): True for there in items.ground.finals}
    if any([node in goals and number > len(row) for node, number in numbers.items()]):
        return False
    named = [(here, part, items.ends_of(here, part - items.bodies.many) & 1 << there) for here, part, there in numbers]
    ends = items.all_below(named + [(0, items.bodies.part_of(start), goal_ends(items, start))])
    return RunSums(items, ends, numbers).are_below()


def _numbers_told(task, items, table):
    """The numbers of a table by nodes of names; None if it is not a table of quadruples with different items."""
    if not isinstance(table, tuple):
        return None
    numbers = {}
    for told in table:
        if not is_tuple_of(told, 4):
            return None
        here, name, there, number = told
        if not is_below(here, items.ground.many) or not is_below(there, items.ground.many) or not is_number(number):
            return None
        node = (here, items.bodies.part_of(name), there) if is_below(name, len(task[0][0])) else None
        if node is None or node in numbers:
            return None
        numbers[node] = number
    return numbers


class RunSums:
    """The greatest sums of runs along bodies, by numbers told for names.

    ends has the nodes for which sums are asked for, with all that they are put together of: for each place a dict from
    parts to sets of places.
    """

    def __init__(self, items, ends, numbers):
        self._items = items
        self._ends = ends
        self._numbers = numbers
        # For each place a dict from names to dicts from numbers told to the sets of the places where they begin.
        self._begins = [{} for _ in ends]
        for (here, part, there), number in numbers.items():
            begins = self._begins[there].setdefault(part, {})
            begins[number] = begins.get(number, 0) | 1 << here

    def are_below(self):
        """Whether a number is told for each name asked for, and none that is less than that of one of its runs."""
        for here in range(len(self._ends)):
            sums = self._sums_from(here)
            for part, ends in self._ends[here].items():
                if part >= self._items.bodies.many and not self._are_told(here, part, ends, sums):
                    return False
        return True

    def _sums_from(self, here):
        """For each beginning a dict from the greatest sums of its runs from a place to the sets of their ends."""
        bodies = self._items.bodies
        found = {0: {0: 1 << here}}
        for part in sorted(self._ends[here]):
            if 0 < part < bodies.many:
                ahead = found[bodies.befores[part]]
                found[part] = {}
                for there in bits(self._ends[here][part]):
                    total = self._sum_of((here, part, there), ahead)
                    if total is not None:
                        found[part][total] = found[part].get(total, 0) | 1 << there
        return found

    def _sum_of(self, node, ahead):
        """The greatest sum of the runs along a beginning, from those ahead of its last symbol; None without numbers."""
        _, part, there = node
        last = self._items.bodies.lasts[part]
        if not is_name(last):
            return greatest_sum(ahead, self._items.sources_of(last, there))
        # Numbers may also be told for items that have no ways.
        stops = self._items.stops(node)
        begins = self._begins[there].get(self._items.bodies.part_of(last), {})
        return greatest_sum(ahead, {number: places & stops for number, places in begins.items()})

    def _are_told(self, here, part, ends, sums):
        """Whether numbers are told for a name from a place to these ends, none less than the sum of a whole body."""
        bodies = self._items.bodies
        for there in bits(ends):
            number = self._numbers.get((here, part, there))
            if number is None:
                return False
            for _, whole in bodies.wholes[part - bodies.many]:
                if any([total > number and found >> there & 1 == 1 for total, found in sums.get(whole, {}).items()]):
                    return False
        return True
