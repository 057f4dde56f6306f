"""Systems of differences: from plus k is at most to, for entries (from, k, to, ..)."""


def solved(bases, entries):
    """Returns integers for all bases with which all entries hold, and None;
    or None and a ring of entries whose numbers have a sum above 0.

    Each round raises what is too low. What is still raised in the last of as many rounds
    as there are bases has been raised along a ring.
    """
    levels = {base: 0 for base in bases}
    causes = {}
    last = None
    for _ in range(len(bases)):
        last = None
        for entry in entries:
            least = levels[entry[0]] + entry[1]
            if least > levels[entry[2]]:
                levels[entry[2]] = least
                causes[entry[2]] = entry
                last = entry[2]
        if last is None:
            return levels, None
    return None, ring_behind(last, causes)


def ring_behind(base, causes):
    """Returns the ring to which one comes from a base by going back from cause to cause."""
    for _ in range(len(causes)):
        base = causes[base][0]
    ring = [causes[base]]
    while ring[-1][0] != base:
        ring.append(causes[ring[-1][0]])
    return ring[::-1]
