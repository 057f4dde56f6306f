"""Statements: what is one, what stands in them, and where they are true or false."""

from allcells.asking import count_asked, order_needed, pairs_said, within
from allcells.errors import InvalidSaying, Unknown
from allcells.rows import cell_at
from allcells.shapes import SHAPES, arrays_of, cells_of, parts_of, place_terms_of, stretches_of
from allcells.states import State
from allcells.terms import check_name, check_place_term, check_value_term, copied, increased, is_integer


def has_form(saying):
    """Tells whether a value has a word, a length and a number as statements have them."""
    if not isinstance(saying, tuple) or not saying or not isinstance(saying[0], str):
        return False
    if saying[0] not in SHAPES or len(saying) != 1 + len(SHAPES[saying[0]]):
        return False
    return all([is_integer(number) for number in parts_of(saying, "number")])


def check_part(part, kind):
    """Raises the error of a part of a statement that is not of its kind."""
    if kind == "array":
        check_name(part)
    elif kind == "value":
        check_value_term(part)
    elif kind == "place" or kind == "end" and part is not None:
        check_place_term(part)


def checked(saying):
    """Returns an equal statement; raises an error for what is none."""
    if not has_form(saying):
        raise InvalidSaying(copied(saying))
    for part, kind in zip(saying[1:], SHAPES[saying[0]]):
        check_part(part, kind)
    return saying


def check_all(sayings):
    """Raises the error of the first value of a list that is no statement."""
    for saying in sayings:
        checked(saying)


def check_known(sayings, state):
    """Raises an error for what is no statement, then for a name that a state does not have."""
    wanted = names_of(sayings)
    there = (state.places, state.numbers, state.arrays)
    for names, having in zip(wanted, there):
        for name in names:
            if name not in having:
                raise Unknown(name)


def terms_of(sayings):
    """Returns the ascending list of the place terms of a list of statements."""
    terms = []
    for saying in sayings:
        terms = terms + place_terms_of(checked(saying))
    return sorted(set(terms)) if terms else [("", 0)]


def names_of(sayings):
    """Returns the ascending lists of the names of places, of values and of arrays."""
    values = []
    arrays = []
    for saying in sayings:
        arrays = arrays + arrays_of(checked(saying)) + [cell[0] for cell in cells_of(saying)]
        values = values + [term[0] for term in parts_of(saying, "value") if len(term) == 2]
    places = [name for name, _ in terms_of(sayings)]
    return (named(places), named(values), named(arrays))


def named(names):
    """Returns the ascending list of the names among strings, each once."""
    return sorted({name for name in names if name != ""})


def is_true(saying, state):
    """Tells whether a statement is true in a state."""
    check_known([saying], state)
    return holds_in(saying, state)


def all_true(sayings, state):
    """Tells whether all statements of a list are true in a state."""
    return first_false(sayings, state) is None


def first_false(sayings, state):
    """Returns the index of the first statement that is not true in a state, or None."""
    check_known(sayings, state)
    for index, saying in enumerate(sayings):
        if not holds_in(saying, state):
            return index
    return None


def holds_in(saying, state):
    """Tells whether a statement is true in a state that has all its names."""
    if saying[0] == "place":
        return state.place_of(saying[1]) <= state.place_of(saying[2])
    if saying[0] == "value":
        return state.value_of(saying[1]) <= state.value_of(saying[2])
    return not false_places(saying, state)


def where_false(saying, state):
    """Returns the ascending list of the places, or pairs of places, at which a statement is false.

    It looks at the places of the rows and at the ends of the stretches; between them
    no cell changes, so a statement that is false is false at one of them.
    """
    check_known([saying], state)
    return false_places(saying, state)


def false_places(saying, state):
    """Does what where_false does, in a state that has all names."""
    word = saying[0]
    pools = [places_in(stretch, saying, state) for stretch in stretches_of(saying)]
    rows = [cells_at(pool, array, state) for pool, array in zip(pools * 2, arrays_of(saying))]
    if word == "rising":
        cells = rows[0]
        return [(i, j) for i, before in cells for j, after in cells if i < j and before > after]
    if word == "low":
        least = state.value_of(saying[4])
        return [i for i, cell in rows[0] if least > cell]
    if word == "high":
        most = state.value_of(saying[4])
        return [i for i, cell in rows[0] if cell > most]
    number = saying[-1]
    if word == "below":
        return [(i, j) for i, low in rows[0] for j, high in rows[1] if low + number > high]
    return [i for (i, one), (_, other) in zip(rows[0], rows[1]) if one + number != other]


def places_in(stretch, saying, state):
    """Returns the ascending list of the places of the rows, and of the ends of all stretches,
    of a statement that lie in one of its stretches."""
    rows = state.arrays
    places = [place for array in arrays_of(saying) for place, _ in rows[array]]
    ends = [state.place_of(end) for end in parts_of(saying, "end") if end is not None]
    first, last = [None if end is None else state.place_of(end) for end in stretch]
    return sorted({
        place
        for place in places + ends
        if (first is None or first <= place) and (last is None or place <= last)
    })


def cells_at(places, array, state):
    """Returns the list of the tuples of each of some places and the cell of an array there."""
    row = state.arrays[array]
    return [(place, cell_at(row, place)) for place in places]


def settled(sayings, state):
    """Returns the state in which cells between the terms of a list are as at the next lower term."""
    check_known(sayings, state)
    places = sorted({state.place_of(term) for term in terms_of(sayings)})
    arrays = state.arrays
    for array in names_of(sayings)[2]:
        arrays[array] = cells_at(places, array, state)
    return State(state.places, state.numbers, arrays)


def opposites(saying, fresh):
    """Returns the lists of statements of which one can be made true just if a statement is false."""
    checked(saying)
    terms = [(name, 0) for name in fresh][: count_asked(saying)]
    word = "place" if saying[0] == "place" else "value"
    return [
        [("place", lower, upper) for lower, upper in order_opposed(saying, terms)]
        + [(word, increased(high), low)]
        for low, high in pairs_said(saying, terms)
    ]


def order_opposed(saying, terms):
    """Returns the pairs of terms that are in order where a statement is false.

    For "rising" these are fewer than are needed to ask it: some follow from the others.
    """
    if saying[0] != "rising":
        return order_needed(saying, terms)
    first, last = stretches_of(saying)[0]
    return within((first, terms[1]), terms[0]) + within((None, last), terms[1])
