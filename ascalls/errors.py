"""The errors of the package: a base class, four families, and errors with fields."""


class CallsError(ValueError):
    """The base class of all errors of the package."""


class PaperError(CallsError):
    """The family of what checkers refuse."""


class ProgramError(CallsError):
    """The family of arguments that do not fit a program, and of programs that are not as calls."""


class WatchError(CallsError):
    """The family of what cannot be done or undone."""


class TextError(CallsError):
    """The family of strings that cannot be read."""


class InvalidPaper(PaperError):
    """A checker refuses a value: the word of the entry that applies, and where."""

    def __init__(self, word, at):
        self.word = word
        self.at = at


class NotUsable(ProgramError):
    """An argument is not what a function needs: the word for it, and where."""

    def __init__(self, word, at):
        self.word = word
        self.at = at


class NotCalls(ProgramError):
    """A program is not as calls: a run of it that has a ring, and a ring of this run."""

    def __init__(self, run, ring):
        self.run = run
        self.ring = ring


class InvalidEvent(WatchError):
    """A watch event is not possible: the event, and the first reason."""

    def __init__(self, event, reason):
        self.event = event
        self.reason = reason


class NothingToUndo(WatchError):
    """So many steps cannot be taken back."""

    def __init__(self, steps):
        self.steps = steps


class InvalidText(TextError):
    """A string cannot be read: its first line that is not possible, and the word in it."""

    def __init__(self, line, field):
        self.line = line
        self.field = field


class InvalidRow(TextError):
    """A desk does not know this row."""

    def __init__(self, row):
        self.row = row
