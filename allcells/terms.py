"""Names and terms: what is one, and what one consists of."""

from allcells.errors import InvalidName, InvalidTerm


def is_integer(value):
    """Tells whether a value is an integer; True and False are none."""
    return isinstance(value, int) and not isinstance(value, bool)


def is_name(value):
    """Tells whether a value is a string of one to six letters from a to z."""
    if not isinstance(value, str) or not 1 <= len(value) <= 6:
        return False
    return all(["a" <= letter <= "z" for letter in value])


def is_plain_term(value):
    """Tells whether a value is a tuple of a name, or of the empty string, and an integer."""
    if not isinstance(value, tuple) or len(value) != 2:
        return False
    return (value[0] == "" or is_name(value[0])) and is_integer(value[1])


def copied(value):
    """Returns an equal value in which every list is new."""
    if isinstance(value, list):
        return [copied(part) for part in value]
    if isinstance(value, tuple):
        return tuple([copied(part) for part in value])
    return value


def check_name(value):
    """Raises InvalidName for a value that is not a name."""
    if not is_name(value):
        raise InvalidName(copied(value))


def check_place_term(value):
    """Raises InvalidTerm for a value that is not a place term."""
    if not is_plain_term(value):
        raise InvalidTerm(copied(value))


def check_value_term(value):
    """Raises InvalidTerm for a value that is not a value term, or for the place term in it."""
    if isinstance(value, tuple) and len(value) == 3:
        check_place_term(value[1])
        if not is_name(value[0]) or not is_integer(value[2]):
            raise InvalidTerm(copied(value))
    elif not is_plain_term(value):
        raise InvalidTerm(copied(value))


def base_of(term):
    """Returns a term without its number: its name, or the tuple of a cell's array and place."""
    return term[0] if len(term) == 2 else term[:2]


def number_of(term):
    """Returns the number that a term adds to its base."""
    return term[-1]


def raised(term, number):
    """Returns the term that is greater by a number."""
    return (*term[:-1], term[-1] + number)


def increased(term):
    """Returns the term that is greater by one."""
    return raised(term, 1)


def at_most(low, high):
    """Returns that one term is at most another as (from, k, to): from plus k is at most to."""
    return (base_of(low), number_of(low) - number_of(high), base_of(high))
