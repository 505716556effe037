"""All errors of the program."""


class ChartError(ValueError):
    """The base class of all errors."""


class PatchDoesNotFit(ChartError):
    """A patch has a misfit for the scene to which it is applied."""

    def __init__(self, reason):
        self.reason = reason


class PictureTooLarge(ChartError):
    """A page has too many pixels for a picture as a whole."""

    def __init__(self, pixels):
        self.pixels = pixels


class DuplicateName(ChartError):
    """A name is given twice."""

    def __init__(self, name):
        self.name = name


class UnknownName(ChartError):
    """Nothing has this name."""

    def __init__(self, name):
        self.name = name


class WrongKind(ChartError):
    """An expression, a column or a constant is of a kind that does not fit."""

    def __init__(self, name):
        self.name = name


class ChannelNeeded(ChartError):
    """A channel that a mark needs is not given."""

    def __init__(self, name):
        self.name = name


class ChannelNotAllowed(ChartError):
    """A channel is given that the mark does not have."""

    def __init__(self, name):
        self.name = name


class ScalesDoNotFit(ChartError):
    """The scales of a view do not fit a bar."""

    def __init__(self, name):
        self.name = name


class TooManyCategories(ChartError):
    """A band scale has more categories than pixels."""

    def __init__(self, count):
        self.count = count


class TooManyRows(ChartError):
    """A data table would get too many rows, or a row too great a number."""

    def __init__(self, name):
        self.name = name


class NotReadable(ChartError):
    """Rows cannot be rebuilt because of a channel."""

    def __init__(self, name):
        self.name = name


class NotDecided(ChartError):
    """There is no pair of rows for a channel."""

    def __init__(self, name):
        self.name = name


class NotComparable(ChartError):
    """Two specifications cannot be compared."""

    def __init__(self, name):
        self.name = name


class TooManyCases(ChartError):
    """A comparison would have to look at too many rows."""

    def __init__(self, count):
        self.count = count


class NothingToUndo(ChartError):
    """There is no change that can be undone."""


class NothingToRedo(ChartError):
    """There is no change that can be redone."""
