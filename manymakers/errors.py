"""The errors that the package raises."""


class MakerError(ValueError):
    """The base class of all errors of the package."""


class InvalidPlan(MakerError):
    """A parameter of a plan, called `part`, is none of its words."""

    def __init__(self, part):
        self.part = part


class InvalidSetup(MakerError):
    """A parameter of a set-up, called `part`, is not as it must be."""

    def __init__(self, part):
        self.part = part


class InvalidStanding(MakerError):
    """A standing does not fit the set-up."""


class UnknownMaker(MakerError):
    """There is no such maker."""


class InvalidEvent(MakerError):
    """Something is no event, or it cannot happen at that point."""


class InvalidHistory(MakerError):
    """The event at `index` of a history cannot be."""

    def __init__(self, index):
        self.index = index


class InvalidNumber(MakerError):
    """Something is no number that a maker could give."""


class InvalidSeries(MakerError):
    """What stands at `index` of a series is no number, or one too many."""

    def __init__(self, index):
        self.index = index


class UnlikeSetups(MakerError):
    """Two set-ups are too unlike to be compared."""


class InvalidCount(MakerError):
    """A count or a length is not within its bounds."""


class InvalidAsks(MakerError):
    """The ask at `index` cannot be, or is one too many."""

    def __init__(self, index):
        self.index = index


class InvalidTime(MakerError):
    """A time is not within its bounds."""


class InvalidLog(MakerError):
    """The entry at `index` of a log cannot be, or is one too many."""

    def __init__(self, index):
        self.index = index


class InvalidWidth(MakerError):
    """A width is not within its bounds."""


class InvalidValue(MakerError):
    """A value is not that of a packed number."""


class InvalidName(MakerError):
    """A name is not one to eight letters a to z."""


class UnknownKept(MakerError):
    """Nothing is kept under a name."""


class InvalidOperation(MakerError):
    """What stands at `index` of a list of operations is none."""

    def __init__(self, index):
        self.index = index


class NoHistory(MakerError):
    """There is no history in which just these numbers are given."""


class InvalidLine(MakerError):
    """The word `word` of the row `row` of a text is wrong, superfluous or missing."""

    def __init__(self, row, word):
        self.row = row
        self.word = word


class DecodeError(MakerError):
    """The item at `offset` of a code is wrong, superfluous or missing."""

    def __init__(self, offset):
        self.offset = offset


class ScriptError(MakerError):
    """The row `row` of a script is wrong."""

    def __init__(self, row):
        self.row = row


class ExecutionFailed(MakerError):
    """The row `row` of a script could not be executed."""

    def __init__(self, row):
        self.row = row


class TooLong(MakerError):
    """A script takes too many steps."""
