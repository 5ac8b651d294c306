"""The errors of the program."""


class WatchError(ValueError):
    """The base class of all errors of the program."""


class TextError(WatchError):
    """A text of rules is wrong at a row and a column, both counted from 1."""

    def __init__(self, row, column):
        super().__init__(f"row {row}, column {column}")
        self.row = row
        self.column = column


class BadCharacter(TextError):
    """A character that can begin no token."""


class BadNumber(TextError):
    """What begins with a digit is not a number."""


class BadQuote(TextError):
    """A quotation mark begins no text."""


class Unexpected(TextError):
    """A token that the grammar does not allow at its place."""


class RuleError(WatchError):
    """A rule is wrong about a word."""

    def __init__(self, word):
        super().__init__(f"{word}")
        self.word = word


class DoubleName(RuleError):
    """A name stands twice where it may stand once."""


class UnknownName(RuleError):
    """A name is not known at its place."""


class WrongCount(RuleError):
    """A call or a group has another number of values than it needs."""


class WrongKind(RuleError):
    """A part of a rule has a value of another kind than it needs."""


class NoKind(RuleError):
    """Nothing tells the kind of a name."""


class NotWatchable(RuleError):
    """The rule of a watch cannot be watched."""


class LogError(WatchError):
    """A log is wrong."""


class BadLine(LogError):
    """A line of a log is not the text of a point."""


class BadTime(LogError):
    """A time is less than that of the point before."""
