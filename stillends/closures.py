"""All that has ways: where in a machine each name, and each beginning of a body, leads.

Sets of states are kept as integers, state k as the bit 1 << k.
"""

from stillends.orders import components

# With so few distances between an arc's states, all arcs of a letter are gone along at once.
_FEW = 2


def bits(states):
    """The list of the states in a set, ascending."""
    found = []
    while states:
        lowest = states & -states
        found.append(lowest.bit_length() - 1)
        states ^= lowest
    return found


class Moves:
    """The arcs of a machine, without their prices."""

    def __init__(self, machine):
        count, arcs = machine
        self.count = count
        # For each letter: a set of states for each state, and the sets from which arcs lead equally far.
        self.goals = {}
        self.jumps = {}
        for here, letter, there, _ in arcs:
            goals = self.goals.setdefault(letter, {})
            goals[here] = goals.get(here, 0) | 1 << there
            jumps = self.jumps.setdefault(letter, {})
            jumps[there - here] = jumps.get(there - here, 0) | 1 << here

    def leads(self):
        """For each state the list of the states to which arcs lead from it."""
        found = [0] * self.count
        for goals in self.goals.values():
            for here, there in goals.items():
                found[here] |= there
        return [bits(states) for states in found]

    def step(self, states, letter):
        """The set of states to which arcs by the letter lead from a set of states."""
        jumps = self.jumps.get(letter, {})
        goals = self.goals.get(letter, {})
        reached = 0
        if len(jumps) <= _FEW:
            for far, sources in jumps.items():
                reached |= (states & sources) << far if far >= 0 else (states & sources) >> -far
            return reached
        for here in bits(states):
            reached |= goals.get(here, 0)
        return reached


class Closure:
    """Where the beginnings of bodies and the names lead from each state of a machine.

    reached has for each state a dict from beginnings, named one from names, to the set of the states
    in which a way can end that reads a text of it.
    """

    def __init__(self, bodies, machine):
        self.bodies = bodies
        self.moves = Moves(machine)
        self.reached = [{} for _ in range(self.moves.count)]
        self.named = [{} for _ in range(self.moves.count)]
        # States that wait, by what they wait for: a beginning that ends with a name, and where it is to begin.
        self._waiting = {}
        # What has come to beginnings and is not passed on yet, and the sequence in which it will be.
        self._fresh = {}
        self._due = []
        for part in components(self.moves.leads()):
            self._close(part)

    def _close(self, part):
        """Finds all for the states of one part; for all others to which they lead it is found already."""
        together = 0
        for state in part:
            together |= 1 << state
            self._come(state, 0, 1 << state)
        while len(self._due) > 0:
            here, beginning = self._due.pop()
            self._go_on(here, beginning, self._fresh.pop((here, beginning)), together)

    def _come(self, here, beginning, states):
        """Notes that a beginning leads to these states."""
        known = self.reached[here].get(beginning, 0)
        fresh = states & ~known
        if fresh == 0:
            return
        self.reached[here][beginning] = known | fresh
        if (here, beginning) in self._fresh:
            self._fresh[(here, beginning)] |= fresh
        else:
            self._fresh[(here, beginning)] = fresh
            self._due.append((here, beginning))

    def _go_on(self, here, beginning, states, together):
        bodies = self.bodies
        for letter, longer in bodies.by_letter[beginning]:
            self._come(here, longer, self.moves.step(states, letter))
        if len(bodies.by_name[beginning]) > 0:
            stops = bits(states)
            open_stops = bits(states & together)
            for name, longer in bodies.by_name[beginning]:
                self._come(here, longer, self._ends_of(name, stops))
                self._wait(here, longer, open_stops)
        for name in bodies.ends[beginning]:
            self._derive(here, name, states)

    def _ends_of(self, name, stops):
        ends = 0
        for stop in stops:
            ends |= self.named[stop].get(name, 0)
        return ends

    def _wait(self, here, longer, stops):
        """Notes that more may come to a longer beginning, from a name that begins at these states."""
        for stop in stops:
            self._waiting[(stop, longer)] = self._waiting.get((stop, longer), 0) | 1 << here

    def _derive(self, here, name, states):
        """Notes that a name leads to these states, and passes it on to those that wait for it."""
        known = self.named[here].get(name, 0)
        fresh = states & ~known
        if fresh == 0:
            return
        self.named[here][name] = known | fresh
        for longer in self.bodies.uses[name]:
            for waiting in bits(self._waiting.get((here, longer), 0)):
                self._come(waiting, longer, fresh)

    def items_told(self):
        """The ascending list of all items that have ways."""
        told = []
        for here, ends in enumerate(self.named):
            for name in sorted(ends):
                told.extend([(here, name, there) for there in bits(ends[name])])
        return told


def text_machine(text, more):
    """A machine that reads the text from state 0 to the last one, and goes on there by the letters of more."""
    many = len(text)
    arcs = [(k, letter, k + 1, 0) for k, letter in enumerate(text)]
    arcs.extend([(many, letter, many, 0) for letter in more])
    return (many + 1, tuple(arcs))


def letters_of(grammar):
    """The letters in the bodies of a grammar, ascending."""
    return sorted({symbol for _, body in grammar[2] for symbol in body if isinstance(symbol, str)})
