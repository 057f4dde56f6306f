"""Which statements fit states that were seen."""

from allcells.follows import thinned
from allcells.sayings import check_all, check_known, holds_in


def check_seen(sayings, states):
    """Raises an error for what is no statement, then, state by state, for a name that one lacks."""
    check_all(sayings)
    for state in states:
        check_known(sayings, state)


def fitting(sayings, states):
    """Returns the ascending list of the indexes of the statements that are true in all states."""
    check_seen(sayings, states)
    return [
        index
        for index, saying in enumerate(sayings)
        if all([holds_in(saying, state) for state in states])
    ]


def strongest(sayings, states):
    """Returns what is left of the statements that are true in all states, without those that
    follow from the others."""
    return thinned([sayings[index] for index in fitting(sayings, states)])


def strictest_state(sayings, states):
    """Returns the index of the first state in which the fewest statements are true, or None."""
    check_seen(sayings, states)
    counts = [len([saying for saying in sayings if holds_in(saying, state)]) for state in states]
    return counts.index(min(counts)) if counts else None
