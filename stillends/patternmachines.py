"""The least machines of patterns, the first texts that part them, and their grammars."""

from stillends.closures import bits
from stillends.patterns import Strokes

# In the place of a state behind a letter, where there is none.
_NONE = -1


def pattern_machine(pattern):
    """The least machine of the pattern: how many states, the finals, and the arcs (state, letter, state)."""
    strokes = Strokes(pattern)
    letters = strokes.all_letters()
    table, ends = _open_table(strokes, letters)
    classes = _classes_of(table, ends)
    met = _first_met(table, classes)
    numbers = {classes[state]: k for k, state in enumerate(met)}
    arcs = []
    for k, state in enumerate(met):
        steps = [(letter, led) for letter, led in zip(letters, table[state]) if led != _NONE]
        arcs.extend([(k, letter, numbers[classes[led]]) for letter, led in steps])
    finals = [k for k, state in enumerate(met) if ends[state]]
    return (len(met), tuple(finals), tuple(arcs))


def _open_table(strokes, letters):
    """A table of the states behind each letter from each state, and a list of whether a text may end in each."""
    covers = strokes.covers()
    states = [strokes.first()]
    numbers = {states[0]: 0}
    table = []
    while len(table) < len(states):
        row = []
        for letter in letters:
            behind = _without_covered(strokes.behind(states[len(table)], letter), covers)
            if behind > 0 and behind not in numbers:
                numbers[behind] = len(states)
                states.append(behind)
            row.append(numbers.get(behind, _NONE))
        table.append(row)
    return (table, [strokes.is_end(state) for state in states])


def _without_covered(strokes, covers):
    """The set of strokes without those that are of no use beside others: so fewer sets have to be told apart."""
    covered = 0
    for stroke in bits(strokes):
        covered |= covers[stroke]
    return strokes & ~covered


def _classes_of(table, ends):
    """The class of each state, equal for states from which the same texts lead to an end; from each state some do."""
    classes = [1 if end else 0 for end in ends]
    many = 0
    while True:
        numbers = {}
        parted = []
        for state, row in enumerate(table):
            mark = (classes[state], tuple([_NONE if led == _NONE else classes[led] for led in row]))
            parted.append(numbers.setdefault(mark, len(numbers)))
        if len(numbers) == many:
            return parted
        classes = parted
        many = len(numbers)


def _first_met(table, classes):
    """One state of each class, in the sequence in which the classes are first met."""
    met = [0]
    known = {classes[0]: True}
    at = 0
    while at < len(met):
        row = table[met[at]]
        for led in row:
            if led != _NONE and classes[led] not in known:
                known[classes[led]] = True
                met.append(led)
        at += 1
    return met


def first_parted(pattern, other):
    """The first text, by length, that just one of the two patterns matches; None if there is none."""
    steps, finals = _steps_and_finals(pattern)
    other_steps, other_finals = _steps_and_finals(other)
    due = [((0, 0), "")]
    known = {(0, 0): True}
    at = 0
    while at < len(due):
        (one, two), text = due[at]
        at += 1
        if (one in finals) != (two in other_finals):
            return text
        leads = steps.get(one, {})
        other_leads = other_steps.get(two, {})
        for letter in sorted(set(list(leads) + list(other_leads))):
            behind = (leads.get(letter, _NONE), other_leads.get(letter, _NONE))
            if behind not in known:
                known[behind] = True
                due.append((behind, text + letter))
    return None


def _steps_and_finals(pattern):
    """For each state of the least machine a dict from letters to states; and the finals."""
    _, finals, arcs = pattern_machine(pattern)
    steps = {}
    for here, letter, there in arcs:
        steps.setdefault(here, {})[letter] = there
    return (steps, finals)


def pattern_grammar(pattern):
    """The grammar with a name for each state of the least machine, and a rule for each final and each arc."""
    count, finals, arcs = pattern_machine(pattern)
    rules = []
    for state in range(count):
        if state in finals:
            rules.append((state, ()))
        rules.extend([(state, (letter, there)) for here, letter, there in arcs if here == state])
    return (tuple(["q" + str(state) for state in range(count)]), 0, tuple(rules))
