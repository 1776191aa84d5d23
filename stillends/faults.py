"""Customs of letting tokens: what is wrong with them, and the mask as a custom."""

from stillends.checks import are_below, ask_short, is_ascending, is_below, is_tuple_of
from stillends.errors import InvalidPaper, NoEnding, NotUsable
from stillends.letters import END, is_int
from stillends.limits import CUSTOM_LIMIT
from stillends.masks import mask_of
from stillends.needing import Outlook
from stillends.tokenlists import joined

# Up to this budget safe_customs counts.
_SAFE_LIMIT = 6


def lets_custom(tokens, budget, thing):
    """How many pairs there are if thing is a custom with the budget; otherwise InvalidPaper for the first fault."""
    ask_short(budget, "budget")
    found = _first_fault(tokens, budget, thing)
    if found is not None:
        word, at = found
        raise InvalidPaper(word, at)
    return len(thing)


def _first_fault(tokens, budget, thing):
    """A pair of what keeps thing from being a custom and its place, None if it is one."""
    if not isinstance(thing, tuple):
        return ("shape", -1)
    before = {}
    for k, pair in enumerate(thing):
        if not _is_entry(tokens, budget, pair):
            return ("row", k)
        row, choices = pair
        if not all([_is_choice(tokens, choice) for choice in choices]) or not is_ascending(choices):
            return ("choices", k)
        if row in before:
            return ("twice", k)
        before[row] = True
    return None


def _is_entry(tokens, budget, thing):
    if not is_tuple_of(thing, 2) or not isinstance(thing[1], tuple):
        return False
    return are_below(thing[0], len(tokens)) and len(thing[0]) <= budget


def _is_choice(tokens, thing):
    return is_below(thing, len(tokens)) or is_int(thing) and thing == END


def fault(task, budget, custom):
    """The first row at which the custom is wrong or stuck, or which it loses, with the word for it; None if none is."""
    ask_short(budget, "budget")
    tokens = task[1]
    if _first_fault(tokens, budget, custom) is not None or len(custom) > CUSTOM_LIMIT:
        raise NotUsable("custom")
    outlook = _outlook_within(task, budget)
    lets = {row: choices for row, choices in custom}
    come = []
    rows = [()]
    while len(rows) > 0:
        for row in rows:
            word = _wrong_or_stuck(outlook, budget, row, lets.get(row, ()))
            if word is not None:
                return (word, row)
        come.extend(rows)
        rows = sorted([row + (choice,) for row in rows for choice in lets[row] if choice != END])
    return _first_lost(outlook, budget, lets, come)


def _outlook_within(task, budget):
    """The outlook at the row (); NoEnding if no good row has at most budget tokens."""
    outlook = Outlook(task)
    least = outlook.need()
    if least is None or least > budget:
        raise NoEnding()
    return outlook


def _wrong_or_stuck(outlook, budget, row, choices):
    """What is wrong at a row that is come to and has these choices, None if nothing is."""
    if len(choices) == 0:
        return "stuck"
    if len(row) == budget and choices != (END,):
        return "wrong"
    outlook.go_to(row)
    return "wrong" if END in choices and not outlook.is_good() else None


def _first_lost(outlook, budget, lets, rows):
    """What is told of the first good row that is lost, None if none is; rows are those come to, all with choices."""
    # A lost row either is come to, or it leaves these rows by a token that is not let: its least number of tokens,
    # and the beginning that is let no more.
    best = (budget + 1, ())
    for row in sorted(rows):
        outlook.go_to(row)
        if outlook.is_good() and END not in lets[row]:
            best = min(best, (len(row), row))
        for token, need in enumerate(outlook.needs()):
            if need is not None and token not in lets[row]:
                best = min(best, (len(row) + 1 + need, row + (token,)))
    return ("loses", _first_good(outlook, best[1])) if best[0] <= budget else None


def _first_good(outlook, row):
    """The first of the good rows with the fewest tokens that begin with a row."""
    outlook.go_to(row)
    least = outlook.need()
    while least > 0:
        least -= 1
        token = outlook.needs().index(least)
        row = row + (token,)
        outlook.write(token)
    return row


def mask_custom(task, budget):
    """The mask as a custom with the budget, by length."""
    ask_short(budget, "budget")
    outlook = _outlook_within(task, budget)
    pairs = []
    due = [()]
    while len(due) > 0:
        row = due.pop()
        outlook.go_to(row)
        fitting, may_end = mask_of(outlook, budget - len(row))
        pairs.append((row, ((END,) if may_end else ()) + fitting))
        due.extend([row + (token,) for token in fitting[::-1]])
    return tuple(sorted(pairs, key=lambda pair: (len(pair[0]), pair[0])))


def safe_customs(task, budget):
    """How many customs with the budget are wrong or stuck nowhere, and have just the rows that they come to."""
    if not is_below(budget, _SAFE_LIMIT + 1):
        raise NotUsable("budget")
    return _count_safe(Outlook(task), task[1], (), budget, {})


def _count_safe(outlook, tokens, row, left, known):
    """In how many ways choices can be let at a row and behind it; known has what was found, by what it hangs on."""
    outlook.go_to(row)
    mark = (outlook.spot(), joined(tokens, row), left)
    if mark not in known:
        fitting, may_end = mask_of(outlook, left)
        product = 2 if may_end else 1
        for token in fitting:
            product *= 1 + _count_safe(outlook, tokens, row + (token,), left - 1, known)
        known[mark] = product - 1
    return known[mark]
