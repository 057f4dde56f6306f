"""Live sheets: statements that are added one after the other, and are true together in some state."""

from allcells.decide import least_clashes, model, possible
from allcells.errors import Contradiction, Needless, NothingToUndo
from allcells.follows import follows
from allcells.sayings import checked


def check_fits(sayings, saying):
    """Raises an error for what is no statement, or cannot be true together with a list."""
    together = sayings + [checked(saying)]
    if not possible(together):
        raise Contradiction(least_clashes(together)[0])


def grown(sayings, added):
    """Returns a list with others behind it; raises the error of the first that cannot be added."""
    for saying in added:
        check_fits(sayings, saying)
        sayings = sayings + [saying]
    return sayings


def grown_lean(sayings, added):
    """Does what grown does, and refuses a statement that follows from those ahead of it."""
    for saying in added:
        check_fits(sayings, saying)
        if follows(sayings, saying):
            raise Needless(saying)
        sayings = sayings + [saying]
    return sayings


class Sheet:
    """A list of statements that are true together in some state; the last one can be taken back."""

    def __init__(self):
        self._sayings = []

    def __call__(self, saying):
        self._sayings = grown(self._sayings, [saying])
        return len(self._sayings)

    @property
    def sayings(self):
        """The list of the statements."""
        return list(self._sayings)

    def follows(self, saying):
        """Tells whether a statement is true in every state in which all of the sheet are."""
        return follows(self._sayings, saying)

    def model(self):
        """Returns a state in which all statements are true."""
        return model(self._sayings)

    def add_all(self, sayings):
        """Adds all statements of a list, or none; returns the number of statements then."""
        self._sayings = grown(self._sayings, sayings)
        return len(self._sayings)

    def undo(self):
        """Takes back the last statement."""
        if not self._sayings:
            raise NothingToUndo(0)
        self._sayings = self._sayings[:-1]

    def __len__(self):
        return len(self._sayings)

    def __eq__(self, other):
        if not isinstance(other, Sheet) or isinstance(other, LeanSheet):
            return False
        return self._sayings == other._sayings


class LeanSheet(Sheet):
    """A sheet on which no statement follows from those before."""

    def __call__(self, saying):
        self._sayings = grown_lean(self._sayings, [saying])
        return len(self._sayings)

    def add_all(self, sayings):
        """Adds all statements of a list, or none; returns the number of statements then."""
        self._sayings = grown_lean(self._sayings, sayings)
        return len(self._sayings)

    def __eq__(self, other):
        return isinstance(other, LeanSheet) and self._sayings == other._sayings
