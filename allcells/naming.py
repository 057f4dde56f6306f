"""Names that are free, and states with just some names."""

from allcells.states import State

LETTERS = "abcdefghijklmnopqrstuvwxyz"


def fresh_names(names, many):
    """Returns the first names that stand in none of the lists of names of places, values and
    arrays: names of one letter, ascending, and behind them those of two."""
    taken = [name for part in names for name in part]
    longer = [one + other for one in LETTERS for other in LETTERS]
    free = [name for name in list(LETTERS) + longer if name not in taken]
    return free[:many]


def state_with_names(state, names):
    """Returns the state with just the names of places, values and arrays in three lists.

    The numbers and cells of names that the state does not have are 0.
    """
    places, numbers, arrays = state.places, state.numbers, state.arrays
    return State(
        {name: places.get(name, 0) for name in names[0]},
        {name: numbers.get(name, 0) for name in names[1]},
        {name: arrays.get(name, [(0, 0)]) for name in names[2]},
    )
