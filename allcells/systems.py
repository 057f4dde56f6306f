"""Systems of differences: from plus k is at most to, for entries (from, k, to, ..)."""


def solved(bases, entries):
    """Returns integers for all bases with which all entries hold, and None;
    or None and a ring of entries whose numbers have a sum above 0.

    Each round raises what is too low. If this has no end, what has raised what goes in a ring
    sooner or later, and only along a ring whose sum is above 0.
    """
    levels = {base: 0 for base in bases}
    causes = {}
    ring = None
    raising = True
    while raising and ring is None:
        raising = False
        for entry in entries:
            least = levels[entry[0]] + entry[1]
            if least > levels[entry[2]]:
                levels[entry[2]] = least
                causes[entry[2]] = entry
                raising = True
        ring = ring_among(causes)
    return (levels, None) if ring is None else (None, ring)


def ring_among(causes):
    """Returns a ring that goes back from cause to cause, or None if there is none."""
    origins = {}
    for origin in causes:
        base = origin
        while base in causes and base not in origins:
            origins[base] = origin
            base = causes[base][0]
        if base in causes and origins[base] == origin:
            return ring_behind(base, causes)
    return None


def ring_behind(base, causes):
    """Returns the ring to which a base belongs, by going back from cause to cause."""
    ring = [causes[base]]
    while ring[-1][0] != base:
        ring.append(causes[ring[-1][0]])
    return ring[::-1]
