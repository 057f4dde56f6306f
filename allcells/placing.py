"""The search for a state at the beginning of a path.

The search gives levels to the places, and looks whether the values have levels then, too. If
not, a ring of entries tells which conditions of the order of places must not all be met.
Such lists of conditions are barred: they narrow the levels that the places may have.
"""

from allcells.layouts import Layout, each_once
from allcells.orders import is_met, known_of, levels_of, table_of, tightened, way_unmet, ways_met
from allcells.searching import entries_said, state_of
from allcells.systems import solved


def state_before(names, sayings, choices, writes):
    """Returns a state in which statements are true, and for each choice (name, lists of
    statements of two terms) all of one of its lists, or None.

    The state has the names in `names`, and for each choice a place with its name, the number
    of the list. In choices there may also be cells of the new arrays of writes.
    """
    places = names[0] + [name for name, _ in choices]
    least = [("place", ("", 0), (name, 0)) for name, _ in choices]
    most = [("place", (name, 0), ("", len(ways) - 1)) for name, ways in choices]
    table = table_of(["", *places], entries_said(sayings + least + most, "place"))
    if table is None:
        return None
    return state_found(Layout((places, names[1], names[2]), sayings, choices, writes, table), table)


def state_found(layout, table):
    """Returns a state whose places fit a table, or None.

    Of the tables that wait, the last one is looked at first. What is barred is barred in all.
    """
    barred = list(layout.barred)
    waiting = [table]
    while waiting:
        table = narrowed(waiting.pop(), layout.conditions, barred)
        if table is not None:
            levels = levels_of(table)
            met = {condition: is_met(condition, levels) for condition in layout.conditions}
            wrong = first_all_met(barred, met)
            if wrong is None:
                values, ring = solved(layout.bases, entries_met(layout.entries, met))
                if ring is None:
                    return state_placed(layout, levels, values)
                wrong = each_once([entry[3] for entry in ring])
                barred.append(wrong)
            waiting.extend(tables_split(table, wrong))
    return None


def narrowed(table, conditions, barred):
    """Returns the table of which more is known as no barred list may be met, or None if one is.

    If all conditions of a list but one are met, this one is not.
    """
    while table is not None:
        known = {condition: known_of(condition, table) for condition in conditions}
        open_parts = [unsure_in(each, known) for each in barred]
        if [] in open_parts:
            return None
        forced = [part[0] for part in open_parts if part is not None and len(part) == 1]
        if not forced:
            return table
        table = tightened(table, [entry for condition in forced for entry in way_unmet(condition)])
    return None


def unsure_in(conditions, known):
    """Returns those of some conditions of which it is not known whether they are met; None if one is not."""
    for condition in conditions:
        if known[condition] is False:
            return None
    return [condition for condition in conditions if known[condition] is None]


def first_all_met(barred, met):
    """Returns the first barred list of which all conditions are met, or None."""
    for conditions in barred:
        if all([met[condition] for condition in conditions]):
            return conditions
    return None


def entries_met(entries, met):
    """Returns the entries of which all conditions are met."""
    return [entry for entry in entries if all([met[condition] for condition in entry[3]])]


def tables_split(table, conditions):
    """Returns the tables in one of which all levels are that fit a table, by the first of some
    conditions of which the table does not tell whether it is met; none if it tells all."""
    unsure = [condition for condition in conditions if known_of(condition, table) is None]
    ways = [way for condition in unsure[:1] for way in ways_met(condition) + [way_unmet(condition)]]
    tables = [tightened(table, way) for way in ways]
    return [each for each in tables if each is not None]


def state_placed(layout, levels, values):
    """Returns the state with the levels of places and values, counted from those of the empty name."""
    spots = {term: levels[term[0]] - levels[""] + term[1] for term in layout.terms}
    return state_of(layout, levels, spots, values)
