"""What is known of the order of places, as a table of differences, and conditions of this order.

A table has, for bases x and y, the greatest k of which it is known that x plus k is at most y,
if there is one. A condition is (word, x, k, y): that x plus k is at most y if the word is
"most", that x plus k is not y if it is "other".
"""

from allcells.terms import at_most


def condition_most(low, high):
    """Returns the condition that a place term is at most another."""
    return ("most", *at_most(low, high))


def condition_other(one, other):
    """Returns the condition that two place terms are not equal."""
    return ("other", *at_most(one, other))


def ways_met(condition):
    """Returns lists of entries (from, k, to): the condition is met just if all of one of them hold."""
    word, start, k, end = condition
    if word == "most":
        return [[(start, k, end)]]
    return [[(start, k + 1, end)], [(end, 1 - k, start)]]


def way_unmet(condition):
    """Returns the list of entries (from, k, to) that hold just if the condition is not met."""
    word, start, k, end = condition
    if word == "most":
        return [(end, 1 - k, start)]
    return [(start, k, end), (end, -k, start)]


def is_met(condition, levels):
    """Tells whether a condition is met by the levels of all bases."""
    word, start, k, end = condition
    return levels[start] + k <= levels[end] if word == "most" else levels[start] + k != levels[end]


def known_of(condition, table):
    """Tells whether a condition is met by all levels that fit a table, or by none; None for some."""
    word, start, k, end = condition
    up = table.get((start, end))
    down = table.get((end, start))
    less = down is not None and down > -k
    if word == "most":
        if less:
            return False
        return True if up is not None and up >= k else None
    if less or up is not None and up > k:
        return True
    return False if up == k and down == -k else None


def is_known(entry, table):
    """Tells whether a table says an entry (from, k, to)."""
    least = table.get((entry[0], entry[2]))
    return least is not None and least >= entry[1]


def table_of(bases, entries):
    """Returns the table of what entries (from, k, to) say of bases, or None if they cannot be."""
    return tightened({(base, base): 0 for base in bases}, entries)


def tightened(table, entries):
    """Returns the table of which more entries are known, or None if they cannot be."""
    for entry in entries:
        if is_known((entry[2], 1 - entry[1], entry[0]), table):
            return None
        if not is_known(entry, table):
            table = joined(table, entry)
    return table


def joined(table, entry):
    """Returns the table of which one more entry is known, with all that this tells."""
    before = [(start, table[(start, end)]) for start, end in table if end == entry[0]]
    after = [(end, table[(start, end)]) for start, end in table if start == entry[2]]
    result = {pair: table[pair] for pair in table}
    for start, one in before:
        for end, other in after:
            k = one + entry[1] + other
            result[(start, end)] = max(k, table.get((start, end), k))
    return result


def levels_of(table):
    """Returns integers for all bases that fit a table."""
    levels = {}
    for start, end in table:
        levels[end] = max(table[(start, end)], levels.get(end, 0))
    return levels
