"""The words of statements, and what stands behind each word."""

SHAPES = {
    "place": ("place", "place"),
    "value": ("value", "value"),
    "rising": ("array", "end", "end"),
    "low": ("array", "end", "end", "value"),
    "high": ("array", "end", "end", "value"),
    "below": ("array", "end", "end", "array", "end", "end", "number"),
    "same": ("array", "array", "end", "end", "number"),
}


def parts_of(saying, kind):
    """Returns the list of the parts of one kind of a statement, from the left."""
    return [part for part, found in zip(saying[1:], SHAPES[saying[0]]) if found == kind]


def arrays_of(saying):
    """Returns the list of the arrays of a statement, without those of its value terms."""
    return parts_of(saying, "array")


def stretches_of(saying):
    """Returns the list of the stretches of a statement, as tuples of two ends."""
    ends = parts_of(saying, "end")
    return [(ends[at], ends[at + 1]) for at in range(0, len(ends), 2)]


def cells_of(saying):
    """Returns the list of the value terms of a statement that are cells."""
    return [term for term in parts_of(saying, "value") if len(term) == 3]


def asked_terms_of(saying):
    """Returns the list of the place terms that are ends of stretches or stand in cells."""
    ends = [end for end in parts_of(saying, "end") if end is not None]
    return ends + [term[1] for term in cells_of(saying)]


def place_terms_of(saying):
    """Returns the list of all place terms that stand in a statement."""
    return parts_of(saying, "place") + asked_terms_of(saying)
