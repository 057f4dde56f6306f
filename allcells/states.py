"""States: integers for places and values, and rows for arrays."""

from allcells.errors import Unknown
from allcells.rows import cell_at, check_row, least_row
from allcells.terms import check_name


def sum_of(numbers, term):
    """Returns the number of a term of two things, whose name is in a dict or empty."""
    name, number = term
    if name == "":
        return number
    if name not in numbers:
        raise Unknown(name)
    return numbers[name] + number


class State:
    """The numbers of places and values, and the cells of arrays; it never changes."""

    def __init__(self, places, numbers, arrays):
        for name in sorted(places):
            check_name(name)
        for name in sorted(numbers):
            check_name(name)
        for name in sorted(arrays):
            check_name(name)
            check_row(arrays[name])
        self._places = dict(places)
        self._numbers = dict(numbers)
        self._arrays = {name: least_row(arrays[name]) for name in arrays}

    @property
    def places(self):
        """The integers of the places, by their names."""
        return dict(self._places)

    @property
    def numbers(self):
        """The integers of the values, by their names."""
        return dict(self._numbers)

    @property
    def arrays(self):
        """The rows of the arrays in their least form, by their names."""
        return {name: list(self._arrays[name]) for name in self._arrays}

    def place_of(self, term):
        """Returns the integer of a place term."""
        return sum_of(self._places, term)

    def value_of(self, term):
        """Returns the integer of a value term."""
        if len(term) == 2:
            return sum_of(self._numbers, term)
        array, place, number = term
        if array not in self._arrays:
            raise Unknown(array)
        return cell_at(self._arrays[array], self.place_of(place)) + number

    def with_cell(self, array, place, value):
        """Returns the state in which one cell is a value, and all others are as before."""
        if array not in self._arrays:
            raise Unknown(array)
        row = self._arrays[array]
        cells = {start: cell for start, cell in row}
        for beside in (place - 1, place + 1):
            cells[beside] = cell_at(row, beside)
        cells[place] = value
        arrays = self.arrays
        arrays[array] = list(cells.items())
        return State(self._places, self._numbers, arrays)

    def __len__(self):
        return len([*self._places, *self._numbers, *self._arrays])

    def __eq__(self, other):
        return (
            isinstance(other, State)
            and self._places == other._places
            and self._numbers == other._numbers
            and self._arrays == other._arrays
        )
