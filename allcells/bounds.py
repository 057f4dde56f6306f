"""Between which bounds the difference of two terms lies where statements are true."""

from allcells.decide import model, possible
from allcells.sayings import check_all
from allcells.searching import Plan
from allcells.terms import check_place_term, check_value_term, is_integer, raised


def value_bounds(sayings, u, v):
    """Returns the least and the greatest difference from one value term to another, or None."""
    check_all(sayings)
    check_value_term(u)
    check_value_term(v)
    return bounds_of(sayings, ("value", u, v))


def place_bounds(sayings, p, q):
    """Returns the least and the greatest difference from one place term to another, or None."""
    check_all(sayings)
    check_place_term(p)
    check_place_term(q)
    return bounds_of(sayings, ("place", p, q))


def state_with(sayings, u, v, number):
    """Returns a state in which statements are true and a value term is greater than another
    one by a number, or None."""
    check_all(sayings)
    check_value_term(u)
    check_value_term(v)
    return model(sayings + [("value", raised(u, number), v), ("value", v, raised(u, number))])


def bounds_of(sayings, saying):
    """Returns the bounds of the difference from the first to the second term of a "place" or "value"."""
    if not possible(sayings):
        return None
    word, low, high = saying
    far = reach(sayings + [saying])
    least = least_difference(sayings, (word, low, high), far)
    most = least_difference(sayings, (word, high, low), far)
    return (least, None if most is None else -most)


def least_difference(sayings, saying, far):
    """Returns the least difference from the first to the second term of a "place" or "value", or None.

    The statements are true in some state. No least difference is farther from 0 than `far`,
    so that what is below this has no bound.
    """
    word, low, high = saying
    missed, met = -far - 1, far
    if possible(sayings + [(word, high, raised(low, missed))]):
        return None
    while met - missed > 1:
        middle = (missed + met) // 2
        if possible(sayings + [(word, high, raised(low, middle))]):
            met = middle
        else:
            missed = middle
    return met


def reach(sayings):
    """Returns a number than which no bound of a difference is farther from 0.

    A bound is a sum along entries that lead from base to base, each base once. The number of
    an entry is at most the difference of two numbers that stand in statements, and one more.
    """
    plan = Plan(sayings)
    many = len(plan.place_bases) + len(plan.value_bases)
    return (many + 1) * (2 * greatest_number(sayings) + 1)


def greatest_number(value):
    """Returns the greatest absolute value of the numbers in lists and tuples, 0 if there is none."""
    if is_integer(value):
        return abs(value)
    if isinstance(value, (list, tuple)):
        return max([0] + [greatest_number(part) for part in value])
    return 0
