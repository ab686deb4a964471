"""The refusals: one class for each kind, all of them a FitError."""


class FitError(ValueError):
    """Any refusal."""


class NoBlock(FitError):
    """A program without a block."""


class TooMany(FitError):
    """More blocks, rows, ways or reads than a program may have."""


class NoName(FitError):
    """A slot, sign or read that is no name."""


class SignTwice(FitError):
    """A sign that a row ahead has."""


class NoWay(FitError):
    """A way that is not the number of a block."""


class NoPlace(FitError):
    """A place at which no row stands."""


class NoLine(FitError):
    """A line that a written program does not have there."""
