"""What letters are sure to come behind a row."""

from stillends.checks import ask_row, ask_short
from stillends.errors import NoEnding
from stillends.quickneeds import Lead


def sure_text(task, row, left):
    """The longest text with which all that is read in endings of at most left tokens begins."""
    ask_row(task[1], row)
    ask_short(left, "left")
    lead = Lead(task)
    return text_ahead(lead, lead.at_row(row), left)


def ask_ending(lead, stance, left):
    """NoEnding if no ending of a row has at most left tokens."""
    least = lead.need(stance)
    if least is None or least > left:
        raise NoEnding()


def text_ahead(lead, stance, left):
    """What sure_text tells, for the row of a stance."""
    ask_ending(lead, stance, left)
    letters = []
    cell = stance.cell
    # The places where an ending may have come to, with the fewest tokens finished on the way.
    spots = {stance.place: 0}
    while not _may_end(lead, cell, spots, left):
        steps = _steps(lead, cell, spots, left)
        if len(steps) > 1:
            break
        for letter, (below, behind) in steps.items():
            letters.append(letter)
            cell = below
            spots = behind
    return "".join(letters)


def _may_end(lead, cell, spots, left):
    """Whether an ending of at most left tokens is at its end."""
    if not lead.one_way.may_end(cell):
        return False
    return any([place in lead.ground.finals and used <= left for place, used in spots.items()])


def _steps(lead, cell, spots, left):
    """For each letter that may come next the stand behind it, and the places with the tokens finished up to there."""
    steps = {}
    for letter in lead.one_way.next_letters(cell):
        behind = lead.one_way.pushed(cell, letter)[0]
        led = spots_behind(lead, behind, led_on(lead, spots, letter), left)
        if len(led) > 0:
            steps[letter] = (behind, led)
    return steps


def led_on(lead, spots, letter):
    """The places to which arcs by the letter lead from these, with the fewest tokens finished on the way."""
    led = {}
    for place, used in spots.items():
        for there, token in lead.ground.steps[place].get(letter, []):
            more = used + 1 if token >= 0 else used
            led[there] = min(more, led.get(there, more))
    return led


def spots_behind(lead, cell, spots, left):
    """Those of the places from which what the stand derives can be read with at most left tokens in all."""
    least = {place: lead.least(cell, place) for place in spots}
    return {place: used for place, used in spots.items() if least[place] is not None and used + least[place] <= left}
