"""Lines that ask a library, and what is in it, and the replies to them."""

from stillends.carelessrows import careless
from stillends.errors import Ended, Looped, NoEnding, NoSuch, NotLet, NotOneWay, NoTape, NotUsable
from stillends.errors import NothingToUndo, Taken, TooMuch
from stillends.grammartexts import split_lines
from stillends.letters import END
from stillends.libraries import Library
from stillends.longestrows import longest
from stillends.masks import mask
from stillends.needing import need
from stillends.onerow import one_row
from stillends.pairnumbers import nth_pair
from stillends.plainruns import PlainRun
from stillends.spelledall import spelled_all
from stillends.tasks import is_good
from stillends.tokentexts import is_unsigned, joined_numbers
from stillends.totals import total


def play(library, text):
    """The tuple of the replies to the lines, played in sequence."""
    if not isinstance(library, Library):
        raise NotUsable("library")
    lines = split_lines(text)
    return tuple([_reply(library, line) for line in lines])


def _reply(library, line):
    """The reply to one line; what raises an error has changed nothing."""
    try:
        return _answer(library, line)
    except NotUsable:
        return "refused NotUsable"
    except TooMuch:
        return "refused TooMuch"
    except NotOneWay:
        return "refused NotOneWay"
    except Looped:
        return "refused Looped"
    except NoEnding:
        return "refused NoEnding"
    except NoTape:
        return "refused NoTape"
    except NotLet:
        return "refused NotLet"
    except Ended:
        return "refused Ended"
    except NoSuch:
        return "refused NoSuch"
    except Taken:
        return "refused Taken"
    except NothingToUndo:
        return "refused NothingToUndo"


def _answer(library, line):
    """The reply to a line that raises no error."""
    words = line.split(" ")
    if "" in words or words[0] not in _KINDS:
        return "unknown"
    kinds = _KINDS[words[0]]
    given = [_read(kind, word) for kind, word in zip(kinds, words[1:])]
    if len(kinds) != len(words) - 1 or None in given:
        return "unknown"
    action = _ACTIONS[words[0]]
    return action(library, given)


def _read(kind, word):
    """What the word of a line says if it is of the kind, otherwise None."""
    if kind == "word":
        return word
    if kind == "number":
        return int(word) if is_unsigned(word) else None
    if word == "-":
        return ()
    parts = word.split(",")
    if not all([is_unsigned(part) or kind == "choices" and part == str(END) for part in parts]):
        return None
    return tuple([int(part) for part in parts])


def _told(numbers):
    """How a tuple of numbers is told."""
    return joined_numbers(numbers, ",") if len(numbers) > 0 else "-"


def _task_and_writer(library, name, other):
    """The task and the writer with these names; NotUsable("writer") if they are for unlike tokens."""
    task = library.thing_of("task", name)
    tokens, writer = library.thing_of("writer", other)
    if tokens != task[1]:
        raise NotUsable("writer")
    return (task, writer)


def _need(library, given):
    name, row = given
    number = need(library.thing_of("task", name), row)
    return "need " + ("none" if number is None else str(number))


def _mask(library, given):
    name, left, row = given
    tokens, may_end = mask(library.thing_of("task", name), row, left)
    return "mask " + _told(tokens + ((END,) if may_end else ()))


def _good(library, given):
    name, row = given
    return "good " + ("yes" if is_good(library.thing_of("task", name), row) else "no")


def _run(library, given):
    name, budget, choices = given
    run = PlainRun(library.thing_of("task", name), budget)
    for choice in choices:
        run.write(choice)
    return ("ended " if run.ended() else "open ") + _told(run.row())


def _spelled(library, given):
    return spelled_all(library.thing_of("task", given[0]))[0]


def _one(library, given):
    return one_row(library.thing_of("task", given[0]))[0]


def _careless(library, given):
    answer = careless(library.thing_of("task", given[0]))
    return "never" if answer[0] == "never" else "lost " + str(len(answer[1]))


def _longest(library, given):
    answer = longest(library.thing_of("task", given[0]))
    return "most " + str(len(answer[1])) if answer[0] == "most" else answer[0]


def _total(library, given):
    name, other, budget = given
    task, writer = _task_and_writer(library, name, other)
    return "total " + str(total(task, writer, (), budget))


def _nth(library, given):
    name, other, budget, k = given
    task, writer = _task_and_writer(library, name, other)
    tape, tree = nth_pair(task, writer, budget, k)
    return "nth " + _told(tape) + " " + _told(tree)


def _drop(library, given):
    kind, name = given
    library.drop(kind, name)
    return "done"


def _rename(library, given):
    kind, name, other = given
    library.rename(kind, name, other)
    return "done"


def _undo(library, given):
    library.undo()
    return "done"


def _redo(library, given):
    library.redo()
    return "done"


# For the first word of each line what words come behind it, and what is done.
_KINDS = {
    "need": ("word", "row"),
    "mask": ("word", "number", "row"),
    "good": ("word", "row"),
    "run": ("word", "number", "choices"),
    "spelled": ("word",),
    "one": ("word",),
    "careless": ("word",),
    "longest": ("word",),
    "total": ("word", "word", "number"),
    "nth": ("word", "word", "number", "number"),
    "drop": ("word", "word"),
    "rename": ("word", "word", "word"),
    "undo": (),
    "redo": (),
}
_ACTIONS = {
    "need": _need,
    "mask": _mask,
    "good": _good,
    "run": _run,
    "spelled": _spelled,
    "one": _one,
    "careless": _careless,
    "longest": _longest,
    "total": _total,
    "nth": _nth,
    "drop": _drop,
    "rename": _rename,
    "undo": _undo,
    "redo": _redo,
}
