"""The errors of the package."""


class RoadError(ValueError):
    """What is passed is not what a function takes."""


class InvalidLevel(RoadError):
    """A value is no level."""


class InvalidPair(RoadError):
    """A value is no pair of the level."""


class InvalidMatrix(RoadError):
    """A value is no matrix that the function takes."""


class InvalidFraction(RoadError):
    """A value is no fraction that can be passed."""


class InvalidTable(RoadError):
    """A value is no table."""


class InvalidPolynomial(RoadError):
    """A value is no polynomial."""


class InvalidSum(RoadError):
    """A value is no sum of paths."""


class InvalidForm(RoadError):
    """A value is no binary form."""


class InvalidPrime(RoadError):
    """A value is no prime number that the function takes."""


class InvalidElement(RoadError):
    """A value is no element of an order of quaternions."""


class InvalidLot(RoadError):
    """A value is no lot."""


class InvalidRow(RoadError):
    """A value is no row."""


class InvalidPaper(RoadError):
    """A value is no paper."""


class InvalidOperation(RoadError):
    """The values do not allow what is asked for."""


class ParseError(RoadError):
    """A text cannot be read; `index` tells where."""

    def __init__(self, index):
        self.index = index


class InvalidCount(IndexError):
    """A value is no integer within the bounds; it is kept as `value`."""

    def __init__(self, value):
        self.value = value


class UnknownName(KeyError):
    """There is nothing with a name; it is kept as `name`."""

    def __init__(self, name):
        self.name = name


class NothingToUndo(RuntimeError):
    """There are fewer changes than are to be taken back; their number is kept as `wanted`."""

    def __init__(self, wanted):
        self.wanted = wanted


class TooMany(OverflowError):
    """More than a limit; it is kept as `limit`."""

    def __init__(self, limit):
        self.limit = limit


class Refused(ArithmeticError):
    """The arguments are valid, but there is no answer; what stands against it is kept as `reason`."""

    def __init__(self, reason):
        self.reason = reason
