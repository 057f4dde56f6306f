"""Rows: the lists of tuples (place, value) that give an array its cells."""

from allcells.errors import InvalidRow
from allcells.terms import copied


def check_row(row):
    """Raises InvalidRow for a row that is empty or has a place twice."""
    if not row or len({place for place, _ in row}) < len(row):
        raise InvalidRow(copied(row))


def least_row(row):
    """Returns the only row of least form that has the same cells."""
    kept = []
    for place, value in sorted(row):
        if not kept or kept[-1][1] != value:
            kept.append((place, value))
    first = kept[1][0] - 1 if len(kept) > 1 else 0
    return [(first, kept[0][1])] + kept[1:]


def cell_at(row, place):
    """Returns the cell at a place of a row in ascending order."""
    cell = row[0][1]
    for start, value in row:
        if start > place:
            break
        cell = value
    return cell


def overwritten(row, source, first, last):
    """Returns a row, in any order, whose cells on a stretch are those of another row, while all
    others are as before."""
    if last < first:
        return row
    edges = [(first - 1, cell_at(row, first - 1)), (first, cell_at(source, first)), (last + 1, cell_at(row, last + 1))]
    outside = [(place, cell) for place, cell in row if place < first - 1 or place > last + 1]
    inside = [(place, cell) for place, cell in source if first < place <= last]
    return outside + edges + inside
