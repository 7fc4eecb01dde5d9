"""The errors that the package raises."""


class DepthError(ValueError):
    """What is passed does not have the form that is asked for."""


class InvalidProgram(DepthError):
    """No program, or no procedure."""


class InvalidRun(DepthError):
    """No run."""


class InvalidLimit(DepthError):
    """No limit."""


class InvalidLimits(DepthError):
    """No set of limits."""


class InvalidModes(DepthError):
    """No mode set."""


class InvalidRow(DepthError):
    """No row."""


class InvalidSign(DepthError):
    """No sign."""


class InvalidOperation(DepthError):
    """Something that cannot be done here."""


class InvalidCommand(DepthError):
    """No command."""


class ParseError(DepthError):
    """A line of a text that cannot stand there."""

    def __init__(self, line):
        self.line = line


class UnknownName(KeyError):
    """A name that is not there."""

    def __init__(self, name):
        self.name = name


class UnknownSite(KeyError):
    """A site that is not there."""

    def __init__(self, site):
        self.site = site


class InvalidNumber(IndexError):
    """No number, or one out of bounds."""

    def __init__(self, value):
        self.value = value


class NothingToUndo(LookupError):
    """More steps than can be taken back or done again."""

    def __init__(self, many):
        self.many = many


class Refused(ArithmeticError):
    """A promise that is not kept."""

    def __init__(self, name):
        self.name = name


class TooMany(OverflowError):
    """More than the program lets."""

    def __init__(self, limit):
        self.limit = limit
