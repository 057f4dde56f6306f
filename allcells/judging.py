"""Judging trees of cases that are told by anybody."""

from allcells.asking import count_asked, order_needed, pairs_said
from allcells.cases import RELATIONS, is_in_order, order_known, pairs_of_case
from allcells.terms import at_most, is_integer, is_name, is_plain_term


def shows(sayings, told, cases):
    """Tells whether a value is a tree that shows, in some cases, that statements cannot all be true."""
    if not isinstance(told, tuple) or not told:
        return False
    if told[0] == "ring" and len(told) == 2:
        return closes(sayings, told[1], cases)
    if told[0] != "cases" or len(told) != 6:
        return False
    one, other = told[1], told[2]
    if not is_plain_term(one) or not is_plain_term(other):
        return False
    for relation, branch in zip(RELATIONS, told[3:]):
        if not shows(sayings, branch, cases + [(one, other, relation)]):
            return False
    return True


def closes(sayings, entries, cases):
    """Tells whether a value is a ring of right entries with a sum above 0."""
    if not isinstance(entries, list) or not entries:
        return False
    known = order_known(cases)
    for entry in entries:
        if not is_entry(entry) or entry[:3] not in told_by(sayings, entry, cases, known):
            return False
    for before, after in zip(entries[-1:] + entries, entries):
        if before[2] != after[0]:
            return False
    return is_of_one_kind(sayings, entries) and sum([entry[1] for entry in entries]) >= 1


def is_of_one_kind(sayings, entries):
    """Tells whether all bases of a ring of right entries are of places, or all of values.

    Each base is one from which an entry goes; the empty name is a base of both kinds.
    """
    named = [why for start, _, _, why in entries if start != ""]
    places = [why[0] == "case" or why[0] == "said" and sayings[why[1]][0] == "place" for why in named]
    return all(places) or not any(places)


def is_entry(value):
    """Tells whether a value is a tuple (from, k, to, why) with bases, an integer and a tuple."""
    if not isinstance(value, tuple) or len(value) != 4:
        return False
    if not is_base(value[0]) or not is_integer(value[1]) or not is_base(value[2]):
        return False
    return isinstance(value[3], tuple) and len(value[3]) > 1


def is_base(value):
    """Tells whether a value is the base of a place term or of a value term."""
    if not isinstance(value, tuple):
        return value == "" or is_name(value)
    return len(value) == 2 and is_name(value[0]) and is_plain_term(value[1])


def told_by(sayings, entry, cases, known):
    """Returns the list of the tuples (from, k, to) that the reason of an entry justifies."""
    word, index = entry[3][:2]
    if len(entry[3]) == 3:
        return told_by_asking(sayings, index, entry[3][2], known) if word == "asked" else []
    if len(entry[3]) != 2:
        return []
    if word == "said":
        return told_by_saying(sayings, index)
    if word == "case":
        return told_by_case(cases, index)
    return told_by_equals(cases, index, entry[0]) if word == "equal" else []


def is_index(value, things):
    """Tells whether a value is an index of a list."""
    return is_integer(value) and 0 <= value < len(things)


def told_by_saying(sayings, index):
    """Returns what a statement justifies that is not asked at terms."""
    if not is_index(index, sayings) or count_asked(sayings[index]) > 0:
        return []
    return [at_most(low, high) for low, high in pairs_said(sayings[index], [])]


def told_by_asking(sayings, index, terms, known):
    """Returns what a statement justifies that is asked at terms of which enough is known."""
    if not is_index(index, sayings) or not isinstance(terms, list):
        return []
    saying = sayings[index]
    if count_asked(saying) != len(terms) or not terms:
        return []
    if not all([is_plain_term(term) for term in terms]):
        return []
    for low, high in order_needed(saying, terms):
        if not is_in_order(low, high) and (low, high) not in known:
            return []
    return [at_most(low, high) for low, high in pairs_said(saying, terms)]


def told_by_case(cases, number):
    """Returns what a known case justifies."""
    if not is_index(number, cases):
        return []
    return [at_most(low, high) for low, high in pairs_of_case(cases[number])]


def told_by_equals(cases, number, start):
    """Returns what a case of equal terms justifies of the array of a cell."""
    if not is_index(number, cases) or not isinstance(start, tuple):
        return []
    one, other, relation = cases[number]
    if relation != "equal":
        return []
    here, there = (start[0], one), (start[0], other)
    return [(here, 0, there), (there, 0, here)]
