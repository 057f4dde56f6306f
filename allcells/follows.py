"""What follows from statements, and which lists of statements say the same."""

from allcells.decide import clash, judge_clash, model
from allcells.naming import fresh_names, state_with_names
from allcells.sayings import check_all, names_of, opposites


def lists_against(sayings, saying):
    """Returns the lists of statements of which one can be true just if a statement does not follow."""
    fresh = tuple(fresh_names(names_of(sayings + [saying]), 2))
    return [sayings + opposite for opposite in opposites(saying, fresh)]


def follows(sayings, saying):
    """Tells whether a statement is true in every state in which all of a list are."""
    return counter(sayings, saying) is None


def counter(sayings, saying):
    """Returns a state in which all statements of a list are true and one more is not, or None."""
    names = names_of(sayings + [saying])
    for against in lists_against(sayings, saying):
        state = model(against)
        if state is not None:
            return state_with_names(state, names)
    return None


def why_follows(sayings, saying):
    """Returns a tree for each list of opposites of a statement that follows, or None."""
    trees = []
    for against in lists_against(sayings, saying):
        tree = clash(against)
        if tree is None:
            return None
        trees.append(tree)
    return trees


def judge_why(sayings, saying, told):
    """Tells whether a value is a list of trees that show that a statement follows."""
    lists = lists_against(sayings, saying)
    if not isinstance(told, list) or len(told) != len(lists):
        return False
    return all([judge_clash(against, tree) for against, tree in zip(lists, told)])


def first_different(one, other):
    """Returns a state in which just one of two lists is true, or None."""
    names = names_of(one + other)
    for sayings, others in ((one, other), (other, one)):
        for saying in others:
            state = counter(sayings, saying)
            if state is not None:
                return state_with_names(state, names)
    return None


def needless(sayings):
    """Returns the ascending list of the indexes of statements that follow from all others."""
    check_all(sayings)
    return [at for at, saying in enumerate(sayings) if follows(without(sayings, at), saying)]


def thinned(sayings):
    """Returns a list without those that follow from what is left, looked at from the last one on."""
    check_all(sayings)
    left = list(sayings)
    for index in reversed(range(len(sayings))):
        others = without(left, index)
        if follows(others, left[index]):
            left = others
    return left


def without(sayings, index):
    """Returns a list without the statement with an index."""
    return sayings[:index] + sayings[index + 1:]


def alike(one, other):
    """Tells whether two lists are true in the same states."""
    return first_different(one, other) is None


def first_new(one, other):
    """Returns the index of the first statement of the second list that does not follow from
    the first list, or None."""
    check_all(one + other)
    for index, saying in enumerate(other):
        if not follows(one, saying):
            return index
    return None
