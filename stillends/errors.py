"""The errors of the package, in families; each keeps the very values that it is given."""


class StillError(ValueError):
    """The base class of all errors of the package."""


class PaperError(StillError):
    """What was handed in as a paper is not one."""


class CallError(StillError):
    """A call asks for what cannot be answered as it stands."""


class TaskError(StillError):
    """A task has not what a call needs."""


class RunError(StillError):
    """A run does not let this be written."""


class HouseError(StillError):
    """A library does not keep things in this way."""


class TextError(StillError):
    """A text is not that of a thing."""


class InvalidPaper(PaperError):
    """The paper breaks the rule called word, at this place."""

    def __init__(self, word, at):
        self.word = word
        self.at = at


class NotUsable(CallError):
    """The parameter called word is not as stated."""

    def __init__(self, word):
        self.word = word


class TooMuch(CallError):
    """An answer would be beyond the limit for what it would hold."""

    def __init__(self, what):
        self.what = what


class NotOneWay(TaskError):
    """The grammar does not read one way: two rules of a name have a common predict."""

    def __init__(self, name, rule, other, letter):
        self.name = name
        self.rule = rule
        self.other = other
        self.letter = letter


class Looped(TaskError):
    """The name is looped."""

    def __init__(self, name):
        self.name = name


class NoEnding(TaskError):
    """Nothing can be ended within the tokens that are left."""

    def __init__(self):
        pass


class NoTape(TaskError):
    """There is no good pair."""

    def __init__(self):
        pass


class NoValue(TaskError):
    """The sheet has no such value."""

    def __init__(self):
        pass


class NotLet(RunError):
    """The choice is not let where the run stands."""

    def __init__(self, choice):
        self.choice = choice


class Ended(RunError):
    """The run has ended."""

    def __init__(self):
        pass


class NoSuch(HouseError):
    """The library has nothing of the kind by the name."""

    def __init__(self, kind, name):
        self.kind = kind
        self.name = name


class Taken(HouseError):
    """The library has something of the kind by the name."""

    def __init__(self, kind, name):
        self.kind = kind
        self.name = name


class NothingToUndo(HouseError):
    """Nothing is there to be taken back, or to be done again."""

    def __init__(self):
        pass


class InvalidText(TextError):
    """The line with this number breaks the rule called word."""

    def __init__(self, line, word):
        self.line = line
        self.word = word
