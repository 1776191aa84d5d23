"""Good pairs by number, in the sequence of their tapes, and then of their trees."""

from stillends.checks import ask_short
from stillends.errors import NoTape, NotUsable
from stillends.goodpairs import are_good_pair
from stillends.letters import END, is_number
from stillends.nulls import ask_no_loop
from stillends.stepweights import choice_pairs
from stillends.tapes import chosen, said
from stillends.tasks import letters_behind
from stillends.totals import scale_at
from stillends.treecounts import Forest
from stillends.treenumbers import rank_of, tree_at


def nth_pair(task, writer, budget, k):
    """Good pair number k: a tape and a tree."""
    return pair_of(task, writer, nth_tape(task, writer, budget, k))


def pair_of(task, writer, numbered):
    """A good pair, from its tape and the number of its tree among those of its text; TooMuch("tree")."""
    tape, number = numbered
    grammar = task[0]
    text = letters_behind(task, said(writer, tape)[0])
    return (tape, tree_at(grammar, Forest(grammar, text), len(text), number))


def nth_tape(task, writer, budget, k):
    """The tape of good pair number k, and the number of its tree among those of its text."""
    ask_short(budget, "budget")
    ask_number(k)
    return tape_at(scale_at(task, writer, budget, ()), writer, budget, k)


def ask_number(k):
    """NotUsable("k") if k is no number."""
    if not is_number(k):
        raise NotUsable("k")


def tape_at(scale, writer, budget, k):
    """What nth_tape tells, by a scale that is at the row (); it does not stay there."""
    pairs = scale.total(budget)
    if pairs == 0:
        raise NoTape()
    if k >= pairs:
        raise NotUsable("k")
    tape = []
    for left in range(budget, -1, -1):
        digit, choice, k = _digit_of(scale, writer, left, k)
        tape.append(digit)
        if choice == END:
            break
        scale.write(choice)
    digits, number = divmod(k, scale.trees())
    tape.extend(_free_digits(digits, writer[0], budget + 1 - len(tape)))
    return (tuple(tape), number)


def _digit_of(scale, writer, left, k):
    """The next digit of pair number k behind a row, the choice that it makes, and the number among those behind it."""
    before = 0
    pairs = choice_pairs(scale, writer, left)
    for at, share in enumerate(scale.shares()):
        if k < pairs[at]:
            digit, behind = divmod(k, pairs[at] // share)
            return (before + digit, END if at + 1 == len(pairs) else at, behind)
        k -= pairs[at]
        before += share
    return None


def _free_digits(number, total, many):
    """The number written with so many digits below total."""
    digits = []
    for _ in range(many):
        number, digit = divmod(number, total)
        digits.append(digit)
    return digits[::-1]


def rank_pair(task, writer, budget, tape, tree):
    """The number of the good pair, None if the two are none."""
    ask_short(budget, "budget")
    ask_no_loop(task[0])
    if not are_good_pair(task, writer, budget, tape, tree):
        return None
    return rank_at(scale_at(task, writer, budget, ()), writer, budget, tape) + rank_of(task[0], tree)


def rank_at(scale, writer, budget, tape):
    """How many good pairs have a lesser tape than this one, by a scale that is at the row (); it does not stay there.

    The tape is that of a good pair.
    """
    rank = 0
    for at, digit in enumerate(tape):
        left = budget - at
        rank += _pairs_below(scale, writer, left, digit)
        choice = chosen(scale.shares(), digit)
        if choice == END:
            return rank + _number_of(tape[at + 1 :], writer[0]) * scale.trees()
        scale.write(choice)
    return None


def _pairs_below(scale, writer, left, digit):
    """How many pairs go on from a row with a lesser digit, with so many tokens left."""
    below = 0
    for share, pairs in zip(scale.shares(), choice_pairs(scale, writer, left)):
        if digit < share:
            return below + (pairs // share) * digit
        below += pairs
        digit -= share
    return below


def _number_of(digits, total):
    """The number that these digits below total write."""
    number = 0
    for digit in digits:
        number = number * total + digit
    return number
