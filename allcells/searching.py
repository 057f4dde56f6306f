"""The search for a state in which statements are true, or for a tree of cases against them.

A part of the search knows some cases. It gives numbers to the places that fit them, and
asks all statements at the terms in the order that these numbers have. Either this gives
a state, or a ring. If the ring needs an order that no case tells, this order is split
into cases.
"""

from allcells.asking import count_asked, order_needed, pairs_said
from allcells.cases import RELATIONS, is_in_order, order_known, pairs_of_case
from allcells.sayings import names_of
from allcells.shapes import asked_terms_of
from allcells.states import State
from allcells.systems import solved
from allcells.terms import at_most


class Plan:
    """What a search asks: bases and entries of places and of values.

    An entry is (from, k, to, why, needed). The last one lists the pairs of terms of which
    a case must tell that the first is at most the second.
    """

    def __init__(self, sayings):
        self.names = names_of(sayings)
        self.terms = terms_to_ask(sayings)
        cells = [(array, term) for array in self.names[2] for term in self.terms]
        self.place_bases = ["", *self.names[0]]
        self.value_bases = ["", *self.names[1], *cells]
        self.place_entries = entries_said(sayings, "place")
        self.value_entries = (
            entries_said(sayings, "value")
            + entries_asked(sayings, self.terms)
            + entries_equal(self.names[2], self.terms)
        )


class Found:
    """What a search has found: a state, or a tree and the dict of what the tree uses.

    A use is a pair of terms of which a case tells that the first is at most the second,
    or a reason ("case", p, q) if a ring needs all that this case says.
    """

    def __init__(self, state, tree, uses):
        self.state = state
        self.tree = tree
        self.uses = uses


def terms_to_ask(sayings):
    """Returns the ascending list of the terms at which it is enough to ask.

    A term that is no end of a stretch and stands in no cell makes no difference,
    as long as there is one term at all.
    """
    terms = [term for saying in sayings for term in asked_terms_of(saying)]
    return sorted(set(terms)) if terms else [("", 0)]


def entries_said(sayings, word):
    """Returns the entries of the statements with a word that are not asked at terms."""
    return [
        (*at_most(saying[1], saying[2]), ("said", index), [])
        for index, saying in enumerate(sayings)
        if saying[0] == word
    ]


def entries_asked(sayings, terms):
    """Returns the entries of all statements that are asked at some of the terms."""
    choices = ([], [[term] for term in terms], [[i, j] for i in terms for j in terms])
    entries = []
    for index, saying in enumerate(sayings):
        for asked in choices[count_asked(saying)]:
            why = ("asked", index, tuple(asked))
            needed = cases_needed(order_needed(saying, asked))
            pairs = pairs_said(saying, asked)
            entries = entries + [(*at_most(low, high), why, needed) for low, high in pairs]
    return entries


def cases_needed(pairs):
    """Returns the pairs of terms whose numbers do not tell that the first is at most the second."""
    return [(low, high) for low, high in pairs if not is_in_order(low, high)]


def entries_equal(arrays, terms):
    """Returns the entries that cells of one array are equal at equal terms."""
    return [
        ((array, one), 0, (array, other), ("equal", *sorted([one, other])), [(one, other), (other, one)])
        for array in arrays
        for one in terms
        for other in terms
        if one != other
    ]


def entries_of_cases(cases):
    """Returns the entries that the known cases tell of places."""
    return [
        (*at_most(low, high), ("case", one, other), [])
        for one, other, relation in cases
        for low, high in pairs_of_case((one, other, relation))
    ]


def searched(plan):
    """Returns what is found when no case is known."""
    levels, ring = placed(plan, [])
    return explored(plan, [], levels) if ring is None else closed_by(ring)


def placed(plan, cases):
    """Returns levels of the places that fit the cases, and None; or None and a ring."""
    return solved(plan.place_bases, plan.place_entries + entries_of_cases(cases))


def closed_by(ring):
    """Returns what is found where a ring needs nothing that is not known."""
    uses = {pair: True for entry in ring for pair in entry[4]}
    for entry in ring:
        if entry[3][0] == "case":
            uses[entry[3]] = True
    return Found(None, ("ring", ring), uses)


def explored(plan, cases, levels):
    """Returns what is found in known cases, with levels of the places that fit them."""
    spots = {term: levels[term[0]] - levels[""] + term[1] for term in plan.terms}
    fitting = [
        entry
        for entry in plan.value_entries
        if all([spots[low] <= spots[high] for low, high in entry[4]])
    ]
    known = order_known(cases)
    sure = [entry for entry in fitting if all([pair in known for pair in entry[4]])]
    _, ring = solved(plan.value_bases, sure)
    if ring is not None:
        return closed_by(ring)
    values, ring = solved(plan.value_bases, fitting)
    if ring is None:
        return Found(state_of(plan, levels, spots, values), None, {})
    unknown = [pair for entry in ring for pair in entry[4] if pair not in known]
    one, other = sorted(unknown[0])
    return split(plan, cases, one, other)


def state_of(plan, levels, spots, values):
    """Returns the state with the levels of places and values, counted from those of the empty name."""
    places, numbers, arrays = plan.names
    rows = {}
    for array in arrays:
        row = {spots[term]: values[(array, term)] - values[""] for term in plan.terms}
        rows[array] = list(row.items())
    return State(
        {name: levels[name] - levels[""] for name in places},
        {name: values[name] - values[""] for name in numbers},
        rows,
    )


def split(plan, cases, one, other):
    """Returns what is found if the relations of two terms are looked at, one after the other.

    A tree that uses nothing of the case stands for all of it. A tree that uses less than
    the case tells also serves other relations.
    """
    results = {}
    levels = {}
    for relation in RELATIONS:
        levels[relation], ring = placed(plan, cases + [(one, other, relation)])
        if ring is not None:
            results[relation] = closed_by(ring)
    for relation in ("less", "greater", "equal"):
        if relation not in results:
            found = explored(plan, cases + [(one, other, relation)], levels[relation])
            served = relations_served(found.uses, one, other, relation)
            if found.state is not None or len(served) == len(RELATIONS):
                return found
            for name in served:
                results.setdefault(name, found)
    own = ((one, other), (other, one), ("case", one, other))
    uses = {use: True for relation in RELATIONS for use in results[relation].uses if use not in own}
    branches = [results[relation].tree for relation in RELATIONS]
    return Found(None, ("cases", one, other, *branches), uses)


def relations_served(uses, one, other, relation):
    """Returns the relations of two terms for which a tree with some uses is right."""
    if ("case", one, other) in uses:
        return [relation]
    served = list(RELATIONS)
    if (one, other) in uses:
        served.remove("greater")
    if (other, one) in uses:
        served.remove("less")
    return served


def told_tree(tree, path):
    """Returns a tree as it is told, with new lists; path lists the pairs of terms of the cases above."""
    if tree[0] == "ring":
        return ("ring", [(*entry[:3], told_reason(entry[3], path)) for entry in tree[1]])
    one, other = tree[1:3]
    branches = [told_tree(branch, path + [(one, other)]) for branch in tree[3:]]
    return ("cases", one, other, *branches)


def told_reason(why, path):
    """Returns the reason of an entry as it is told, with the number of its case."""
    if why[0] == "said":
        return why
    if why[0] == "asked":
        return ("asked", why[1], list(why[2]))
    return (why[0], path.index((why[1], why[2])))
