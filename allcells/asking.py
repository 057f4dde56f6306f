"""What a statement says at place terms, and which order the terms must have for this."""

from allcells.shapes import arrays_of, stretches_of


def count_asked(saying):
    """Returns the number of terms at which a statement is asked, 0 if it is not asked at terms."""
    if saying[0] in ("place", "value"):
        return 0
    return 2 if saying[0] in ("rising", "below") else 1


def pairs_said(saying, terms):
    """Returns what a statement says at terms, as a list of pairs: the first is at most the second.

    No terms are needed for "place" and "value". The pairs of "same" stand in the order
    of its opposites.
    """
    word = saying[0]
    if word in ("place", "value"):
        return [(saying[1], saying[2])]
    arrays = arrays_of(saying)
    cell = (arrays[0], terms[0], 0)
    if word == "rising":
        return [(cell, (arrays[0], terms[1], 0))]
    if word == "low":
        return [(saying[4], cell)]
    if word == "high":
        return [(cell, saying[4])]
    raised = (arrays[0], terms[0], saying[-1])
    other = (arrays[1], terms[-1], 0)
    return [(raised, other)] if word == "below" else [(other, raised), (raised, other)]


def within(stretch, term):
    """Returns the pairs of terms of which the first must be at most the second
    for a term to lie in a stretch."""
    first, last = stretch
    lower = [] if first is None else [(first, term)]
    upper = [] if last is None else [(term, last)]
    return lower + upper


def order_needed(saying, terms):
    """Returns the pairs of terms of which the first must be at most the second
    for a statement to say something at terms."""
    stretches = stretches_of(saying)
    if saying[0] == "rising":
        i, j = terms
        return within(stretches[0], i) + within(stretches[0], j) + [(i, j)]
    pairs = []
    for stretch, term in zip(stretches, terms):
        pairs = pairs + within(stretch, term)
    return pairs
