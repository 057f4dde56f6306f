"""Whether statements can be true together, with a state or a tree that shows it."""

from itertools import combinations

from allcells.judging import shows
from allcells.sayings import checked
from allcells.searching import Plan, searched, told_tree


def found_for(sayings):
    """Returns what a search finds for a list of statements."""
    return searched(Plan([checked(saying) for saying in sayings]))


def possible(sayings):
    """Tells whether a list of statements is true in some state."""
    return found_for(sayings).state is not None


def model(sayings):
    """Returns a state in which all statements of a list are true, or None."""
    return found_for(sayings).state


def clash(sayings):
    """Returns a tree that shows that statements are true together in no state, or None."""
    found = found_for(sayings)
    return told_tree(found.tree, []) if found.state is None else None


def judge_clash(sayings, told):
    """Tells whether a value is a tree that shows that statements are true together in no state."""
    return shows([checked(saying) for saying in sayings], told, [])


def least_clashes(sayings):
    """Returns the lists of indexes of statements that clash, while no part of them does."""
    clashes = []
    rows = [checked(saying) for saying in sayings]
    for size in range(len(rows) + 1):
        for part in combinations(range(len(rows)), size):
            if not has_any(part, clashes) and not possible([rows[index] for index in part]):
                clashes = clashes + [list(part)]
    return clashes


def has_any(part, clashes):
    """Tells whether all indexes of some clash are in a part."""
    return any([all([index in part for index in known]) for known in clashes])
