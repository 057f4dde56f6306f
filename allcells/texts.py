"""Texts that show terms, statements and states."""


def show_sum(name, number):
    """Returns a name with the number that is added to it, or the number alone if it has no name."""
    if name == "" or number < 0:
        return name + str(number)
    return name + "+" + str(number) if number > 0 else name


def show_term(term):
    """Returns the text of a term."""
    if len(term) == 2:
        return show_sum(term[0], term[1])
    array, place, number = term
    return show_sum(array + "[" + show_term(place) + "]", number)


def show_part(part):
    """Returns the text of what may stand in a statement."""
    if part is None:
        return ".."
    if isinstance(part, tuple):
        return show_term(part)
    return str(part)


def show_saying(saying):
    """Returns the text of a statement."""
    return " ".join([show_part(part) for part in saying])


def show_row(row):
    """Returns the text of a row."""
    return ",".join([str(place) + ":" + str(value) for place, value in row])


def show_state(state):
    """Returns the text of a state."""
    places, numbers, arrays = state.places, state.numbers, state.arrays
    return "; ".join(
        ["place " + name + "=" + str(places[name]) for name in sorted(places)]
        + ["value " + name + "=" + str(numbers[name]) for name in sorted(numbers)]
        + ["array " + name + "=" + show_row(arrays[name]) for name in sorted(arrays)]
    )
