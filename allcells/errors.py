"""The errors of the package: each stores the value that it is about."""


class CellError(ValueError):
    """The base class of all errors of the package."""

    def __init__(self, value):
        self.value = value


class InvalidName(CellError):
    """Something stands where a name is wanted, and is none."""


class InvalidTerm(CellError):
    """Something stands where a term is wanted, and is none of the right kind."""


class InvalidSaying(CellError):
    """Something is not a statement by its word, its length or its number."""


class InvalidStep(CellError):
    """Something is not a step of a program."""


class InvalidRow(CellError):
    """A row of an array is empty or has a place twice."""


class Unknown(CellError):
    """A state does not have a name that is needed."""


class Contradiction(CellError):
    """Statements are true together in no state."""


class Needless(CellError):
    """A statement follows from those that are there."""


class TooLong(CellError):
    """A run needs more than the allowed number of steps."""


class NothingToUndo(CellError):
    """There is no statement to take back."""


class Unreadable(CellError):
    """Nothing has this text."""
