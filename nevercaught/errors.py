"""The errors of the package."""


class FlightError(ValueError):
    """The base of all errors of the package."""


class BadNumber(FlightError):
    """A number that is none, or not within its bounds."""

    def __init__(self, part):
        self.part = part


class BadSquare(FlightError):
    """A value that is no square."""

    def __init__(self, part):
        self.part = part


class BadSquares(FlightError):
    """A value that is no list of unlike squares."""

    def __init__(self, part):
        self.part = part


class BadBurns(FlightError):
    """A value that is no row of burns."""

    def __init__(self, part):
        self.part = part


class BadBoard(FlightError):
    """A value that is no board."""

    def __init__(self, part):
        self.part = part


class BadStand(FlightError):
    """A value that is no stand, or cannot be a part of one."""

    def __init__(self, part):
        self.part = part


class BadClimb(FlightError):
    """A value that is no climb."""

    def __init__(self, part):
        self.part = part


class BadSeat(FlightError):
    """A value that is no seat."""

    def __init__(self, part):
        self.part = part


class BadPaper(FlightError):
    """A value that is no paper."""

    def __init__(self, part):
        self.part = part


class Misfit(FlightError):
    """What was passed does not fit together."""

    def __init__(self, part):
        self.part = part


class NoName(FlightError):
    """A name of nothing that is kept."""

    def __init__(self, value):
        self.value = value


class Twice(FlightError):
    """A value that stands there already."""

    def __init__(self, value):
        self.value = value


class TooMany(FlightError):
    """There are more than may be."""

    def __init__(self, what, most):
        self.what = what
        self.most = most


class Nothing(FlightError):
    """There is nothing to take back, or to do again."""


class BadText(FlightError):
    """A text of which an item cannot stand."""

    def __init__(self, line, item):
        self.line = line
        self.item = item


class BadLine(FlightError):
    """A line of a desk that raised an error."""

    def __init__(self, line, error):
        self.line = line
        self.error = error
