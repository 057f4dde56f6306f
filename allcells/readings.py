"""Terms, statements and states that are read from texts.

What a text seems to show is shown again, and must give this very text: so nothing else looks at
signs without a number, needless zeros, the order of names and the form of rows.
"""

from allcells.errors import CellError, Unreadable
from allcells.sayings import checked
from allcells.shapes import SHAPES
from allcells.states import State
from allcells.terms import check_value_term
from allcells.texts import show_saying, show_state, show_term

MOST_DIGITS = 60


def read_term(text):
    """Returns the term with a text."""
    return read_back(text, term_in, show_term)


def read_saying(text):
    """Returns the statement with a text."""
    return read_back(text, saying_in, show_saying)


def read_state(text):
    """Returns the state with a text."""
    return read_back(text, state_in, show_state)


def read_back(text, taken, shown):
    """Returns what is taken from a text, if it is shown by just this text."""
    try:
        thing = taken(text)
    except CellError:
        raise Unreadable(text) from None
    if shown(thing) != text:
        raise Unreadable(text)
    return thing


def integer_in(text):
    """Returns the integer with these digits, which may have a minus sign ahead."""
    digits = text[1:] if text.startswith("-") else text
    if not 1 <= len(digits) <= MOST_DIGITS or not all(["0" <= digit <= "9" for digit in digits]):
        raise Unreadable(text)
    return int(text)


def added_in(text):
    """Returns the number that is added to what stands ahead of a text."""
    if text == "":
        return 0
    return integer_in(text[1:] if text.startswith("+") else text)


def sum_in(text):
    """Returns the tuple of the letters at the beginning of a text, and the number behind them."""
    many = 0
    while many < len(text) and "a" <= text[many] <= "z":
        many = many + 1
    return (text[:many], added_in(text[many:]))


def term_in(text):
    """Returns the term that a text seems to show."""
    array, bracket, rest = text.partition("[")
    if bracket == "":
        term = sum_in(text)
    else:
        place, _, number = rest.partition("]")
        term = (array, sum_in(place), added_in(number))
    check_value_term(term)
    return term


def part_in(text, kind):
    """Returns what may stand in a statement, and seems to be shown by a text."""
    if kind == "array":
        return text
    if kind == "number":
        return integer_in(text)
    return None if text == ".." else term_in(text)


def saying_in(text):
    """Returns the statement that a text seems to show."""
    word, *parts = text.split(" ")
    kinds = SHAPES.get(word, ())
    return checked((word, *[part_in(part, kind) for part, kind in zip(parts, kinds)]))


def row_in(text):
    """Returns the row that a text seems to show."""
    entries = [entry.partition(":") for entry in text.split(",")]
    return [(integer_in(place), integer_in(value)) for place, _, value in entries]


def state_in(text):
    """Returns the state that a text seems to show."""
    places, numbers, arrays = {}, {}, {}
    for part in [shown for shown in text.split("; ") if shown != ""]:
        word, _, rest = part.partition(" ")
        name, _, worth = rest.partition("=")
        if word == "place":
            places[name] = integer_in(worth)
        elif word == "value":
            numbers[name] = integer_in(worth)
        elif word == "array":
            arrays[name] = row_in(worth)
        else:
            raise Unreadable(text)
    return State(places, numbers, arrays)
