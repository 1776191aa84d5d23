"""Grammars with few names and rules, put together from bodies of any length."""

from stillends.grammars import BODY_LIMIT, is_name
from stillends.limits import NAME_LIMIT, RULE_LIMIT


def small_grammar(bodies):
    """A grammar with the same texts as these bodies have: for each name, 0 the start, the list of its bodies.

    No two bodies of a name may begin with the same letter, nor be empty if another one is, and no name that stands in
    a body may be without texts; then it reads one way.
    """
    rules = {name: [list(body) for body in own] for name, own in enumerate(bodies)}
    while _take_out_one(rules):
        pass
    _share_letters(rules)
    while _count_rules(rules) > RULE_LIMIT and len(rules) < NAME_LIMIT and _take_together(rules):
        pass
    _part_long_bodies(rules)
    names = sorted(rules)
    numbers = {name: k for k, name in enumerate(names)}
    told = []
    for name in names:
        for body in rules[name]:
            told.append((numbers[name], tuple([numbers.get(symbol, symbol) for symbol in body])))
    return (tuple(["n" + str(k) for k in range(len(names))]), 0, tuple(told))


def _take_out_one(rules):
    """Puts the bodies of a name in its places, and takes out the name; whether one is left for which this is of use."""
    places = _places(rules)
    for name in sorted(rules):
        found = places.get(name, [])
        own = rules[name]
        if name == 0 or name in [symbol for body in own for symbol in body]:
            continue
        if len(own) == 1 and (len(found) == 1 or _fits(rules, name, found)):
            for head in sorted({head for head, _ in found}):
                rules[head] = [_put_in(body, name, own[0]) for body in rules[head]]
            del rules[name]
            return True
        if len(found) == 1 and rules[found[0][0]][found[0][1]] == [name]:
            head, at = found[0]
            rules[head] = rules[head][:at] + own + rules[head][at + 1 :]
            del rules[name]
            return True
    return False


def _places(rules):
    """For each name the list of its places: pairs of a name and the number of a body of it."""
    found = {}
    for head, own in rules.items():
        for at, body in enumerate(own):
            for symbol in body:
                if is_name(symbol):
                    found.setdefault(symbol, []).append((head, at))
    return found


def _fits(rules, name, places):
    """Whether the only body of a name can be put in all of its places, so that no body gets too long."""
    return all([len(_put_in(rules[head][at], name, rules[name][0])) <= BODY_LIMIT for head, at in places])


def _put_in(body, name, symbols):
    """The body with the symbols in each place of the name."""
    found = []
    for symbol in body:
        found.extend(symbols if symbol == name else [symbol])
    return found


def _lone_letters(own):
    """The letters that are bodies by themselves, as a dict of True."""
    return {body[0]: True for body in own if len(body) == 1 and isinstance(body[0], str)}


def _share_letters(rules):
    """Has names that derive some letters alone stand for these in the bodies of other names."""
    shared = {}
    for name, own in rules.items():
        letters = _lone_letters(own)
        if len(letters) == len(own) and len(letters) > 1 and name != 0:
            shared[name] = letters
    larger_first = sorted(shared, key=lambda name: (-len(shared[name]), name))
    for head in sorted(rules):
        for name in larger_first:
            if head not in shared or len(shared[name]) < len(shared[head]):
                _stand_for(rules, head, name, shared[name])


def _stand_for(rules, head, name, letters):
    """Puts the name in the place of letters that are bodies of another one, if all of them are."""
    lone = _lone_letters(rules[head])
    if all([letter in lone for letter in letters]):
        rules[head] = [body for body in rules[head] if len(body) != 1 or body[0] not in letters] + [[name]]


def _count_rules(rules):
    return sum([len(own) for own in rules.values()])


def _take_together(rules):
    """Makes a new name for the most letters that two names have in common; whether this takes less rules."""
    lone = [_lone_letters(rules[name]) for name in sorted(rules)]
    best = []
    for k, letters in enumerate(lone):
        for others in lone[:k]:
            common = [letter for letter in letters if letter in others]
            if len(common) > len(best):
                best = common
    if len(best) < 3:
        return False
    fresh = max(rules) + 1
    for head in sorted(rules):
        _stand_for(rules, head, fresh, best)
    rules[fresh] = [[letter] for letter in best]
    return True


def _part_long_bodies(rules):
    """Has new names stand for the ends of bodies that are too long."""
    due = [body for own in rules.values() for body in own]
    while len(due) > 0:
        body = due.pop()
        if len(body) > BODY_LIMIT:
            fresh = max(rules) + 1
            rest = body[BODY_LIMIT - 1 :]
            rules[fresh] = [rest]
            del body[BODY_LIMIT - 1 :]
            body.append(fresh)
            due.append(rest)
