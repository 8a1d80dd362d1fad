"""The errors that the package raises."""


class SumError(ValueError):
    """Sums, a thing or a text that is not as it has to be."""


class InvalidSums(SumError):
    """No sums, or no row."""


class InvalidTable(SumError):
    """No table."""


class InvalidWeb(SumError):
    """No web."""


class InvalidTournament(SumError):
    """No tournament."""


class InvalidFilling(SumError):
    """No filling, or no shape."""


class InvalidOperation(SumError):
    """What cannot be done with these arguments."""


class InvalidCommand(SumError):
    """No command."""


class ParseError(SumError):
    """A text, of which the line with this index is wrong."""

    def __init__(self, line):
        self.line = line


class UnknownName(KeyError):
    """A name that stands for nothing."""

    def __init__(self, name):
        self.name = name


class InvalidNumber(IndexError):
    """A number or an index out of its range, or what is no such number at all."""

    def __init__(self, value):
        self.value = value


class NothingToUndo(LookupError):
    """More deeds to be taken back, or done again, than there are."""

    def __init__(self, many):
        self.many = many


class Refused(ArithmeticError):
    """A deed that would break the promise with this name."""

    def __init__(self, name):
        self.name = name


class TooMany(OverflowError):
    """More than can be done; the limit tells how many can."""

    def __init__(self, limit):
        self.limit = limit
