"""Cases: which of two place terms is less, or that they are equal, and what this tells."""

from allcells.terms import increased

RELATIONS = ("less", "equal", "greater")


def pairs_of_case(case):
    """Returns what a case (p, q, relation) says, as a list of pairs: the first is at most the second."""
    one, other, relation = case
    if relation == "less":
        return [(increased(one), other)]
    if relation == "greater":
        return [(increased(other), one)]
    return [(one, other), (other, one)]


def order_known(cases):
    """Returns a dict of the pairs of terms of which some case says that the first is not greater."""
    known = {}
    for one, other, relation in cases:
        if relation != "greater":
            known[(one, other)] = True
        if relation != "less":
            known[(other, one)] = True
    return known


def is_in_order(low, high):
    """Tells whether two terms have one name and the number of the first is not greater."""
    return low[0] == high[0] and low[1] <= high[1]
