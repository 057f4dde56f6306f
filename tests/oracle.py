"""Slow and plain second answers, and random statements and states, for the tests."""

import itertools

from allcells.states import State


def cell(row, place):
    """The cell at a place, straight from the definition."""
    lower = [entry for entry in row if entry[0] <= place]
    return (max(lower) if lower else min(row))[1]


def stretch(state, p, q, least, most):
    """All places of a stretch between two numbers, which stand for no bound."""
    first = least if p is None else state.place_of(p)
    last = most if q is None else state.place_of(q)
    return range(first, last + 1)


def plainly_true(saying, state):
    """Truth by looking at every place near the tuples and the ends."""
    word = saying[0]
    if word == "place":
        return state.place_of(saying[1]) <= state.place_of(saying[2])
    if word == "value":
        return state.value_of(saying[1]) <= state.value_of(saying[2])
    rows = state.arrays
    near = [place for row in rows.values() for place, _ in row] + list(state.places.values()) + [0]
    least, most = min(near) - 12, max(near) + 12
    if word == "rising":
        _, a, p, q = saying
        cells = [cell(rows[a], at) for at in stretch(state, p, q, least, most)]
        return cells == sorted(cells)
    if word in ("low", "high"):
        _, a, p, q, u = saying
        number = state.value_of(u)
        cells = [cell(rows[a], at) for at in stretch(state, p, q, least, most)]
        return all(number <= found if word == "low" else found <= number for found in cells)
    if word == "below":
        _, a, p, q, b, r, s, k = saying
        lows = [cell(rows[a], at) for at in stretch(state, p, q, least, most)]
        highs = [cell(rows[b], at) for at in stretch(state, r, s, least, most)]
        return all(low + k <= high for low in lows for high in highs)
    _, a, b, p, q, k = saying
    places = stretch(state, p, q, least, most)
    return all(cell(rows[a], at) + k == cell(rows[b], at) for at in places)


def base(term):
    return term[0] if len(term) == 2 else term[:2]


def at_most(u, v):
    return (base(u), u[-1] - v[-1], base(v))


def ends_of(saying):
    """The stretches of a statement."""
    word = saying[0]
    if word == "below":
        return [saying[2:4], saying[5:7]]
    return [saying[3:5]] if word == "same" else [saying[2:4]]


def told_at(saying, terms):
    """The entries of a statement that is asked at terms."""
    word = saying[0]
    if word == "rising":
        return [at_most((saying[1], terms[0], 0), (saying[1], terms[1], 0))]
    here = (saying[1], terms[0], 0)
    if word == "low":
        return [at_most(saying[4], here)]
    if word == "high":
        return [at_most(here, saying[4])]
    if word == "below":
        return [at_most((saying[1], terms[0], saying[7]), (saying[4], terms[1], 0))]
    one, other = (saying[1], terms[0], saying[5]), (saying[2], terms[0], 0)
    return [at_most(one, other), at_most(other, one)]


def terms_in(value):
    """All place terms of statements, found by their form and where they stand."""
    found = []
    for saying in value:
        for at, part in enumerate(saying):
            if isinstance(part, tuple) and len(part) == 3:
                found.append(part[1])
            elif isinstance(part, tuple) and not is_value_part(saying, at):
                found.append(part)
    return sorted(set(found)) or [("", 0)]


def is_value_part(saying, at):
    return saying[0] == "value" or saying[0] in ("low", "high") and at == 4


def has_solution(entries):
    """Whether a system of differences has integers, by the greatest sums of all paths."""
    bases = sorted({str(e[0]) for e in entries} | {str(e[2]) for e in entries})
    best = {}
    for start, k, end in entries:
        key = (str(start), str(end))
        best[key] = max(k, best.get(key, k))
    for middle, one, other in itertools.product(bases, repeat=3):
        if (one, middle) in best and (middle, other) in best:
            through = best[(one, middle)] + best[(middle, other)]
            best[(one, other)] = max(through, best.get((one, other), through))
    return all(best.get((at, at), 0) <= 0 for at in bases)


def plainly_possible(sayings):
    """Whether statements are true in some state, by trying all orders of the terms."""
    terms = terms_in(sayings)
    arrays = {saying[1] for saying in sayings if saying[0] not in ("place", "value")}
    arrays |= {s[4] for s in sayings if s[0] == "below"} | {s[2] for s in sayings if s[0] == "same"}
    arrays |= {part[0] for s in sayings for part in s if isinstance(part, tuple) and len(part) == 3}
    for ranks in itertools.product(range(len(terms)), repeat=len(terms)):
        if set(ranks) == set(range(max(ranks) + 1)):
            if fits_order(sayings, dict(zip(terms, ranks)), sorted(arrays)):
                return True
    return False


def fits_order(sayings, rank, arrays):
    """Whether statements are without contradiction in one order of the terms."""
    places = [at_most(s[1], s[2]) for s in sayings if s[0] == "place"]
    values = [at_most(s[1], s[2]) for s in sayings if s[0] == "value"]
    for i, j in itertools.product(rank, repeat=2):
        if rank[i] < rank[j]:
            places.append(at_most((i[0], i[1] + 1), j))
        elif rank[i] == rank[j]:
            places.append(at_most(i, j))
            values += [at_most((a, i, 0), (a, j, 0)) for a in arrays]
    if not has_solution(places):
        return False
    for saying in sayings:
        if saying[0] in ("place", "value"):
            continue
        inside = [[t for t in rank if (p is None or rank[p] <= rank[t]) and (q is None or rank[t] <= rank[q])]
                  for p, q in ends_of(saying)]
        inside = inside * 2 if saying[0] == "rising" else inside
        for asked in itertools.product(*inside):
            if saying[0] != "rising" or rank[asked[0]] <= rank[asked[1]]:
                values += told_at(saying, asked)
    return has_solution(values)


def is_int(value):
    return isinstance(value, int) and not isinstance(value, bool)


def is_term(value):
    if not isinstance(value, tuple) or len(value) != 2 or not is_int(value[1]):
        return False
    return isinstance(value[0], str) and (value[0] == "" or is_word(value[0]))


def is_word(value):
    return isinstance(value, str) and 1 <= len(value) <= 6 and set(value) <= set("abcdefghijklmnopqrstuvwxyz")


def plainly_shows(sayings, told, path=()):
    """A second judge of trees."""
    if not isinstance(told, tuple):
        return False
    if len(told) == 6 and told[0] == "cases" and is_term(told[1]) and is_term(told[2]):
        return all(plainly_shows(sayings, told[3 + at], path + ((told[1], told[2], at),)) for at in range(3))
    if len(told) != 2 or told[0] != "ring" or not isinstance(told[1], list) or not told[1]:
        return False
    kinds = [entry_kind(sayings, entry, path) for entry in told[1]]
    if "" in kinds or len(set(kinds) - {"both"}) > 1:
        return False
    links = zip(told[1], told[1][1:] + told[1][:1])
    return all(one[2] == other[0] for one, other in links) and sum(entry[1] for entry in told[1]) > 0


def entry_kind(sayings, entry, path):
    """"place", "value" or "both" for a right entry, "" for another value."""
    if not isinstance(entry, tuple) or len(entry) != 4 or not is_int(entry[1]):
        return ""
    for end in (entry[0], entry[2]):
        cellular = isinstance(end, tuple) and len(end) == 2 and is_word(end[0]) and is_term(end[1])
        if end != "" and not is_word(end) and not cellular:
            return ""
    kind = reason_kind(sayings, entry[:3], entry[3], path)
    return "both" if kind and entry[0] == entry[2] == "" else kind


def reason_kind(sayings, said, why, path):
    if not isinstance(why, tuple) or len(why) not in (2, 3) or not is_int(why[1]):
        return ""
    if why[1] < 0 or why[1] >= len(sayings if why[0] in ("said", "asked") else path):
        return ""
    if why[0] == "asked" and len(why) == 3:
        return "value" if asked_right(sayings[why[1]], said, why[2], path) else ""
    if len(why) == 3:
        return ""
    if why[0] == "said":
        saying = sayings[why[1]]
        return saying[0] if saying[0] in ("place", "value") and said == at_most(*saying[1:]) else ""
    if why[0] not in ("case", "equal"):
        return ""
    p, q, at = path[why[1]]
    if why[0] == "equal":
        ends = [said[0], said[2]]
        right = at == 1 and said[1] == 0 and isinstance(said[0], tuple)
        return "value" if right and any(ends == [(said[0][0], i), (said[0][0], j)] for i, j in ((p, q), (q, p))) else ""
    up, down = at_most((p[0], p[1] + (at == 0)), q), at_most((q[0], q[1] + (at == 2)), p)
    return "place" if said in ([up], [up, down], [down])[at] else ""


def asked_right(saying, said, terms, path):
    if saying[0] in ("place", "value") or not isinstance(terms, list):
        return False
    if len(terms) != (2 if saying[0] in ("rising", "below") else 1) or not all(map(is_term, terms)):
        return False
    stretches = ends_of(saying) * 2 if saying[0] == "rising" else ends_of(saying)
    wanted = [(p, t) for (p, _), t in zip(stretches, terms)] + [(t, q) for (_, q), t in zip(stretches, terms)]
    if saying[0] == "rising":
        wanted.append((terms[0], terms[1]))
    for low, high in wanted:
        if low is None or high is None or low[0] == high[0] and low[1] <= high[1]:
            continue
        if not any(case[:2] == (low, high) and case[2] < 2 or case[:2] == (high, low) and case[2] > 0 for case in path):
            return False
    return said in told_at(saying, terms)


WORDS = ("place", "value", "rising", "low", "high", "below", "same")


def random_value_term(rng, terms, arrays, values, size):
    way = rng.random()
    if way < 0.5:
        return (rng.choice(arrays), rng.choice(terms), rng.randint(-size, size))
    return (rng.choice(values) if way < 0.8 else "", rng.randint(-size, size))


def random_saying(rng, terms, arrays="ab", values="uv", size=2, words=WORDS, open_ends=0.15):
    """A statement with some of the terms and names."""
    def end():
        return None if rng.random() < open_ends else rng.choice(terms)

    word = rng.choice(words)
    one, other = rng.choice(arrays), rng.choice(arrays)
    if word == "place":
        return (word, rng.choice(terms), rng.choice(terms))
    if word == "value":
        return (word, *[random_value_term(rng, terms, arrays, values, size) for _ in range(2)])
    if word == "rising":
        return (word, one, end(), end())
    if word in ("low", "high"):
        return (word, one, end(), end(), random_value_term(rng, terms, arrays, values, size))
    if word == "below":
        return (word, one, end(), end(), other, end(), end(), rng.randint(-size, size))
    return (word, one, other, end(), end(), rng.randint(-size, size))


def random_state(rng, places="nxy", values="uv", arrays="ab", size=5, length=5):
    """A state with small numbers and rows."""
    rows = {}
    for array in arrays:
        spots = rng.sample(range(-size, size + 1), rng.randint(1, length))
        rows[array] = [(spot, rng.randint(-2, 2)) for spot in spots]
    return State(
        {name: rng.randint(-size, size) for name in places},
        {name: rng.randint(-2, 2) for name in values},
        rows,
    )


def lists_in(value):
    """All lists in a value, those within lists, tuples and dicts too."""
    if isinstance(value, dict):
        value = list(value.values())
        return [each for part in value for each in lists_in(part)]
    found = [value] if isinstance(value, list) else []
    if isinstance(value, (list, tuple)):
        for part in value:
            found += lists_in(part)
    return found


def all_new(value, *others):
    """Whether no list of a value stands in it twice or in another value."""
    mine = [id(each) for each in lists_in(value)]
    theirs = {id(each) for other in others for each in lists_in(other)}
    return len(set(mine)) == len(mine) and not theirs & set(mine)


def mutants(value):
    """All values that differ from a value in one place."""
    if isinstance(value, bool) or value is None:
        return [0, "x"]
    if isinstance(value, int):
        return [value + 1, value - 1, str(value), None, bool(value % 2), [value], -value - 7]
    if isinstance(value, str):
        return ["", value + "s", "b" if value != "b" else "c", "Q", 0, None, [value], (value,), True]
    found = [list(value) if isinstance(value, tuple) else tuple(value), None, 0, ""]
    for at, part in enumerate(value):
        found += [value[:at] + type(value)([new]) + value[at + 1:] for new in mutants(part)]
        found += [value[:at] + value[at + 1:], value[:at] + type(value)([part, part]) + value[at + 1:]]
        if at and isinstance(value, tuple):
            found += [value[:at - 1] + type(value)([part, value[at - 1]]) + value[at + 1:]]
    return found
