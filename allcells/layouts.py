"""What statements and writes say of values, in conditions of the order of places."""

from allcells.orders import condition_most, condition_other, known_of
from allcells.searching import entries_asked, entries_equal, entries_said, terms_to_ask
from allcells.shapes import cells_of
from allcells.terms import at_most, base_of, increased


class Layout:
    """What is said of values where the places fit a table.

    An entry is (from, k, to, conditions): it holds where all its conditions are met. The bases
    are values, the cells at all terms of the arrays in `names`, and the cells that are read of
    the new arrays of writes. A barred list has conditions that cannot all be met.

    A choice is (name, lists of statements of two terms): where the place with this name is the
    number of a list, all statements of the list are true.
    """

    def __init__(self, names, sayings, choices, writes, table):
        chosen = sayings_chosen(choices)
        all_sayings = sayings + [saying for saying, _ in chosen]
        cells, written = cells_written(all_sayings, writes, table)
        new = [write[0] for write in writes]
        self.names = names
        self.terms = sorted(set(terms_to_ask(all_sayings) + [term for _, term in cells]))
        self.bases = (
            ["", *names[1]]
            + [(array, term) for array in names[2] for term in self.terms]
            + [cell for cell in cells if cell[0] in new]
        )
        told = entries_told(sayings, names[2], self.terms)
        self.entries = sifted(told + entries_chosen(chosen) + written, table)
        self.barred = barred_by(chosen)
        self.conditions = each_once([entry[3] for entry in self.entries] + self.barred)


def sayings_chosen(choices):
    """Returns the list of the tuples of each statement of choices and the conditions where it is true."""
    return [
        (saying, [condition_most((name, 0), ("", at)), condition_most(("", at), (name, 0))])
        for name, ways in choices
        for at, way in enumerate(ways)
        for saying in way
    ]


def entries_chosen(chosen):
    """Returns the entries of what choices say of values."""
    return [(*at_most(saying[1], saying[2]), conditions) for saying, conditions in chosen if saying[0] == "value"]


def barred_by(chosen):
    """Returns the lists of conditions that cannot all be met, by what choices say of places."""
    return [
        conditions + [condition_most(increased(saying[2]), saying[1])]
        for saying, conditions in chosen
        if saying[0] == "place"
    ]


def entries_told(sayings, arrays, terms):
    """Returns the entries of what statements, asked at all terms, and equal terms say of values."""
    told = entries_said(sayings, "value") + entries_asked(sayings, terms) + entries_equal(arrays, terms)
    return [(*entry[:3], [condition_most(low, high) for low, high in entry[4]]) for entry in told]


def cells_written(sayings, writes, table):
    """Returns the list of all cells that statements read, also through writes, and the entries
    that tell what cells of new arrays are."""
    cells = {base_of(cell): True for saying in sayings for cell in cells_of(saying)}
    entries = []
    for write in reversed(writes):
        terms = [term for array, term in cells if array == write[0]]
        links = [link for term in terms for link in links_at(term, write, table)]
        for here, source, conditions in links:
            if len(source) == 3:
                cells[base_of(source)] = True
            entries.append((*at_most(here, source), conditions))
            entries.append((*at_most(source, here), conditions))
    return list(cells), entries


def links_at(term, write, table):
    """Returns the list of the tuples (cell of the new array of a write at a term, value term,
    conditions): where the conditions are met, both are equal. What a table rules out is left out."""
    new, old, first, last, source = write
    here, before = (new, term, 0), (old, term, 0)
    inside = (source, term, 0) if isinstance(source, str) else source
    links = [(here, inside, [condition_most(first, term), condition_most(term, last)])]
    if first == last:
        links.append((here, before, [condition_other(first, term)]))
    else:
        links.append((here, before, [condition_most(increased(term), first)]))
        links.append((here, before, [condition_most(increased(last), term)]))
    return [link for link in links if False not in [known_of(condition, table) for condition in link[2]]]


def sifted(entries, table):
    """Returns the entries that can hold where the places fit a table, without conditions that are met anyway."""
    known = {condition: known_of(condition, table) for condition in each_once([entry[3] for entry in entries])}
    return [
        (*entry[:3], [condition for condition in entry[3] if known[condition] is None])
        for entry in entries
        if False not in [known[condition] for condition in entry[3]]
    ]


def each_once(lists):
    """Returns the list of what stands in some lists, each once."""
    return list({thing: True for each in lists for thing in each})
