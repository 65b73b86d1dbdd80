"""The errors that the program raises, one class for each kind of failure."""


class SaysoError(ValueError):
    """Any error of this program."""


class BadStructure(SaysoError):
    """Something is not a structure."""


class BadFormula(SaysoError):
    """Something is not a formula, or not a system of definitions."""


class BadText(SaysoError):
    """A text is not the textual form of anything."""


class BadArgument(SaysoError):
    """An argument is of the told kind, but the function does not take it."""


class BadMachine(SaysoError):
    """Something is not a machine."""


class NotFitting(SaysoError):
    """A structure lacks a symbol, or two structures are not comparable."""


class TooLarge(SaysoError):
    """Something is beyond the told bounds."""


class BadLine(SaysoError):
    """The desk does not take a line."""
