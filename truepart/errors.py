"""The errors of the package."""


class PartError(ValueError):
    """The error from which all others of the package derive."""


class TextFault(PartError):
    """A text that cannot be read; line and column are counted from 1."""

    def __init__(self, line, column):
        self.line = line
        self.column = column


class Nought(PartError):
    """A division by 0."""


class Unknown(PartError):
    """Something with this name or number is not there."""


class Taken(PartError):
    """Something else has this name already."""


class Beyond(PartError):
    """A number is outside its range."""


class Full(PartError):
    """There are as many as there can be."""


class NoSide(PartError):
    """No side has this origin, a text."""

    def __init__(self, origin):
        self.origin = origin


class Stuck(PartError):
    """A way has more stages than are looked at."""


class Unplaced(PartError):
    """The parts of an assembly are not placed."""
