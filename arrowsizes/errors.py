"""The errors of the package."""


class ArrowError(ValueError):
    """The base of the errors that tell a value of the wrong kind or form."""


class InvalidPoly(ArrowError):
    """A value is no polynomial, and nothing that can stand for one."""


class InvalidParts(ArrowError):
    """A value is no parts."""


class InvalidTable(ArrowError):
    """A value is no table, or rows are none of a table."""


class InvalidPlan(ArrowError):
    """A value is no plan, or arrows are none of a plan."""


class InvalidSizes(ArrowError):
    """A value is no row of sizes."""


class InvalidFilling(ArrowError):
    """A value is no filling, or tables are none of a filling."""


class InvalidPrime(ArrowError):
    """A value is none of the primes 2, 3, 5 and 7."""


class InvalidPoint(ArrowError):
    """A value is no point of a plan."""


class InvalidWeight(ArrowError):
    """A value is no weight."""


class InvalidPledge(ArrowError):
    """A value is no pledge."""


class InvalidOperation(ArrowError):
    """Values are of the right kind, but do not go together."""


class ParseError(ArrowError):
    """A text cannot be read from a spot on."""

    def __init__(self, spot):
        self.spot = spot


class InvalidCount(IndexError):
    """A value is no integer within the told bounds."""

    def __init__(self, value):
        self.value = value


class UnknownName(KeyError):
    """Nothing has this name."""

    def __init__(self, name):
        self.name = name


class NothingToUndo(RuntimeError):
    """So many changes cannot be taken back, or done again."""

    def __init__(self, wanted):
        self.wanted = wanted


class TooMany(OverflowError):
    """There is more than the limit lets."""

    def __init__(self, limit):
        self.limit = limit


class Refused(ArithmeticError):
    """A request is refused for a reason."""

    def __init__(self, reason):
        self.reason = reason
