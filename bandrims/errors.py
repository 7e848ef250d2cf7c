"""The errors of bandrims, one class for each kind of failure."""


class BandError(ValueError):
    """What the errors that tell of wrong values have in common."""


class InvalidWeb(BandError):
    """Something is no web."""


class InvalidFormula(BandError):
    """Something is no formula."""


class InvalidLengths(BandError):
    """Something is no lengths of a web."""


class InvalidRims(BandError):
    """Something is no lengths of rims."""


class InvalidPairing(BandError):
    """Something is no pairing of sides."""


class InvalidMove(BandError):
    """Something is no turning of polygons."""


class InvalidPieces(BandError):
    """Something is no joined pieces."""


class InvalidTable(BandError):
    """Something is no table."""


class InvalidPledge(BandError):
    """Something is no pledge."""


class InvalidOperation(BandError):
    """What is asked for cannot be done with these values."""


class ParseError(BandError):
    """A text cannot be read."""

    def __init__(self, spot):
        self.spot = spot


class InvalidNumber(IndexError):
    """Something is no number, or none within the bounds."""

    def __init__(self, given):
        self.given = given


class UnknownName(KeyError):
    """A name stands for nothing."""

    def __init__(self, name):
        self.name = name


class NothingToUndo(RuntimeError):
    """There are fewer changes than are to be taken back or done again."""

    def __init__(self, wanted):
        self.wanted = wanted


class TooMany(OverflowError):
    """There would be more than a limit lets."""

    def __init__(self, limit):
        self.limit = limit


class Refused(ArithmeticError):
    """What is asked for is refused for a reason."""

    def __init__(self, reason):
        self.reason = reason
