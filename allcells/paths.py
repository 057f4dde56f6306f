"""Paths: the ways that a run can take through steps without a loop.

A path is told in the words of the state at its beginning. Where a step changes an array, a
new name stands for what the array is then, and a write tells its cells.
"""

from allcells.sayings import opposites
from allcells.shapes import SHAPES
from allcells.terms import raised


class Path:
    """One way through some steps.

    `now` is a dict from names to what they are by now: terms for places and values, names for
    arrays; what is not in it is as it was. A choice is a list of lists of statements: a run
    goes this way just if, of each of `choices`, all statements of one list are true. A write is
    (new, old, first, last, source): the array `new` has on the stretch from `first` to `last`
    the cells of `source`, an array, or all of them are `source`, a value term; elsewhere it
    has those of the array `old`. `spare` lists names that are free.
    """

    def __init__(self, now, choices, writes, spare):
        self.now = now
        self.choices = choices
        self.writes = writes
        self.spare = spare


def paths_through(steps, path):
    """Returns the list of the paths that begin with a path and go through some steps."""
    paths = [path]
    for step in steps:
        paths = [after for before in paths for after in paths_after(step, before)]
    return paths


def paths_after(step, path):
    """Returns the list of the paths that begin with a path and go through a step."""
    word = step[0]
    if word == "if":
        return paths_after_test(step, path)
    if word in ("set_place", "set_value"):
        return [with_now(path, step[1], term_now(path, step[2]))]
    if word == "put":
        place = term_now(path, step[2])
        return [with_write(path, step[1], (place, place), term_now(path, step[3]))]
    first, last = term_now(path, step[-2]), term_now(path, step[-1])
    if word == "copy":
        return [with_write(path, step[1], (first, last), array_now(path, step[2]))]
    array = array_now(path, step[1])
    half = with_write(path, step[1], (first, first), (array, last, 0))
    return [with_write(half, step[1], (last, last), (array, first, 0))]


def paths_after_test(step, path):
    """Returns the list of the paths that begin with a path and go through an "if"."""
    conditions = [saying_now(path, saying) for saying in step[1]]
    done = paths_through(step[2], with_choice(path, [conditions]))
    return done + paths_through(step[3], with_choice(path, ways_not_all(conditions)))


def ways_not_all(conditions):
    """Returns lists of statements: not all conditions are true just if all of one of the lists are."""
    return [opposites(saying, ())[0] for saying in conditions]


def with_now(path, name, thing):
    """Returns the path behind which a name is a term or an array."""
    return Path({**path.now, name: thing}, path.choices, path.writes, path.spare)


def with_choice(path, ways):
    """Returns the path that a run goes only if also all statements of one of the lists in `ways` are true."""
    return Path(path.now, path.choices + [ways], path.writes, path.spare)


def with_write(path, array, stretch, source):
    """Returns the path behind which an array has other cells on a stretch."""
    new = path.spare[0]
    write = (new, array_now(path, array), *stretch, source)
    return Path({**path.now, array: new}, path.choices, path.writes + [write], path.spare[1:])


def array_now(path, array):
    """Returns the name of what an array is behind a path."""
    return path.now.get(array, array)


def term_now(path, term):
    """Returns what a term is behind a path."""
    if len(term) == 2:
        return raised(path.now.get(term[0], (term[0], 0)), term[1])
    return (array_now(path, term[0]), term_now(path, term[1]), term[2])


def part_now(path, part, kind):
    """Returns what a part of a statement is behind a path."""
    if part is None or kind == "number":
        return part
    return array_now(path, part) if kind == "array" else term_now(path, part)


def saying_now(path, saying):
    """Returns the statement that is true at the beginning of a path just if this one is true behind it."""
    kinds = SHAPES[saying[0]]
    return (saying[0], *[part_now(path, part, kind) for part, kind in zip(saying[1:], kinds)])
