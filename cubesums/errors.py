"""The errors that the program raises, one class for each kind of failure."""


class CubeError(ValueError):
    """The base class of all errors that the program raises."""


class BadDimensions(CubeError):
    """These are not the dimensions of a cube."""


class BadGrouping(CubeError):
    """This is not a grouping of the dimensions."""


class NoSuchCell(CubeError):
    """There is no such cell."""


class NoSuchGroup(CubeError):
    """There is no such group."""


class AlreadyStored(CubeError):
    """A group is stored already, or stands twice."""


class NotStored(CubeError):
    """A group is not stored."""


class NotDetermined(CubeError):
    """The sums do not determine the question."""


class SumsDiffer(CubeError):
    """No facts have these sums."""


class ShapesDiffer(CubeError):
    """The cubes have different dimensions."""


class NoSuchMark(CubeError):
    """There is no such mark."""


class AlreadyWatched(CubeError):
    """The expression is watched already."""


class NotWatched(CubeError):
    """The expression is not watched."""


class NoSuchName(CubeError):
    """No dimension has this name, or no member has this path."""

    def __init__(self, name):
        self.name = name


class TwiceAsked(CubeError):
    """Two conditions of one sum name the same dimension."""

    def __init__(self, name):
        self.name = name


class FaultyText(CubeError):
    """A text cannot be read."""

    def __init__(self, at):
        self.at = at


class TooLarge(CubeError):
    """There is more of something than is allowed."""

    def __init__(self, count):
        self.count = count
