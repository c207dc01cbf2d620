"""The errors that the program raises."""


class OddsError(ValueError):
    """The base class of all errors of the program."""


class BadValue(OddsError):
    """The argument with this name has a wrong form."""

    def __init__(self, name):
        self.name = name


class BadGraph(OddsError):
    """The procedures are no graph: where the first problem is, and why it is one."""

    def __init__(self, where, why):
        self.where = where
        self.why = why


class NotTold(OddsError):
    """The graph does not belong to the told class, for this reason."""

    def __init__(self, reason):
        self.reason = reason


class TooLarge(OddsError):
    """What is asked for is larger than the program goes."""

    def __init__(self, what):
        self.what = what


class TextError(OddsError):
    """A text has a problem at this line and column, told in words."""

    def __init__(self, line, column, words):
        self.line = line
        self.column = column
        self.words = words
