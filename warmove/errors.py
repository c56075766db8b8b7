"""The refusals of the package, each kind by a class of its own."""


class MoveError(ValueError):
    """Any refusal."""


class TooMany(MoveError):
    """More would be needed than a bound allows."""


class NoHouse(MoveError):
    """There is no such house to go to."""


class NoLetter(MoveError):
    """There is no such letter, or no such copy of it."""


class NoStep(MoveError):
    """This can't be done now."""


class NoRow(MoveError):
    """This is no row for a desk."""


class NoText(MoveError):
    """A text isn't one of a program; line is the number of its first line that isn't so."""

    def __init__(self, line):
        self.line = line
