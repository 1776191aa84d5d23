"""Couples: a proposal by some weights, and an outcome by others that keeps the proposal as often as can be."""

from stillends.checks import ask_below
from stillends.errors import InvalidPaper, NotUsable
from stillends.weightrows import lets_weights


def couple(target, draft, number):
    """The proposal and the outcome of a number."""
    _ask_weights(target, draft)
    ask_below(number, sum(target) * sum(draft), "number")
    return coupled(target, draft, number)


def coupled(target, draft, number):
    """What couple tells; nothing is checked."""
    wanted, offered = _stretches(target, draft)
    proposal = 0
    # How many of the numbers ahead of the stretch of a proposal have another outcome.
    others = 0
    while number >= offered[proposal]:
        number -= offered[proposal]
        others += max(0, offered[proposal] - wanted[proposal])
        proposal += 1
    if number < wanted[proposal]:
        return (proposal, proposal)
    others += number - wanted[proposal]
    outcome = 0
    while others >= max(0, wanted[outcome] - offered[outcome]):
        others -= max(0, wanted[outcome] - offered[outcome])
        outcome += 1
    return (proposal, outcome)


def kept(target, draft):
    """How many of all numbers have their proposal as outcome."""
    _ask_weights(target, draft)
    return kept_of(target, draft)


def kept_of(target, draft):
    """What kept tells; nothing is checked."""
    wanted, offered = _stretches(target, draft)
    return sum([min(one, other) for one, other in zip(wanted, offered)])


def _stretches(target, draft):
    """For each index how many numbers have it as outcome, and how many as proposal."""
    many = sum(target)
    others = sum(draft)
    return ([weight * others for weight in target], [weight * many for weight in draft])


def _ask_weights(target, draft):
    if not _are_weights(target):
        raise NotUsable("target")
    if not _are_weights(draft) or len(draft) != len(target):
        raise NotUsable("draft")


def _are_weights(thing):
    try:
        lets_weights(thing)
    except InvalidPaper:
        return False
    return True
