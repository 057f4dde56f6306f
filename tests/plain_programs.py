"""A plain second run of programs, a second answer about gaps, and random programs, for the tests."""

from allcells.decide import possible
from allcells.sayings import opposites
from oracle import cell, random_saying, random_value_term

EDGE = 60


class Missing(Exception):
    """A name that a plain state does not have."""


class TooMany(Exception):
    """More steps than a plain run may take."""


class PlainRun:
    """Arrays as dicts of the cells at all places between two edges."""

    def __init__(self, state, most):
        self.places, self.numbers, self.left = state.places, state.numbers, most
        rows = state.arrays
        self.arrays = {name: {at: cell(rows[name], at) for at in range(-EDGE, EDGE + 1)} for name in rows}

    def place(self, term):
        if term[0] == "":
            return term[1]
        if term[0] not in self.places:
            raise Missing(term[0])
        return self.places[term[0]] + term[1]

    def value(self, term):
        if len(term) == 3:
            if term[0] not in self.arrays:
                raise Missing(term[0])
            return self.arrays[term[0]][self.place(term[1])] + term[2]
        if term[0] == "":
            return term[1]
        if term[0] not in self.numbers:
            raise Missing(term[0])
        return self.numbers[term[0]] + term[1]

    def array(self, name):
        if name not in self.arrays:
            raise Missing(name)
        return self.arrays[name]

    def count(self):
        if self.left == 0:
            raise TooMany()
        self.left -= 1

    def look(self, conditions):
        self.count()
        missing = [set(), set(), set()]
        for word, *terms in conditions:
            for term in terms:
                place = term if word == "place" else term[1] if len(term) == 3 else ("", 0)
                missing[0] |= {place[0]} - set(self.places) - {""}
                if word == "value" and len(term) == 2:
                    missing[1] |= {term[0]} - set(self.numbers) - {""}
                if word == "value" and len(term) == 3:
                    missing[2] |= {term[0]} - set(self.arrays)
        for names in missing:
            if names:
                raise Missing(min(names))
        read = {"place": self.place, "value": self.value}
        return all(read[word](low) <= read[word](high) for word, low, high in conditions)

    def steps(self, steps):
        for step in steps:
            self.count()
            getattr(self, "do_" + step[0])(*step[1:])

    def do_set_place(self, name, term):
        self.places[name] = self.place(term)

    def do_set_value(self, name, term):
        self.numbers[name] = self.value(term)

    def do_put(self, array, place, value):
        row, at, number = self.array(array), self.place(place), self.value(value)
        row[at] = number

    def do_exchange(self, array, one, other):
        row, i, j = self.array(array), self.place(one), self.place(other)
        row[i], row[j] = row[j], row[i]

    def do_copy(self, array, source, first, last):
        row, other, i, j = self.array(array), self.array(source), self.place(first), self.place(last)
        row.update({at: other[at] for at in range(i, j + 1)})

    def do_if(self, conditions, yes, no):
        self.steps(yes if self.look(conditions) else no)

    def do_loop(self, conditions, kept, body):
        while self.look(conditions):
            self.steps(body)

    def equals(self, state):
        rows = {name: {at: cell(row, at) for at in range(-EDGE, EDGE + 1)} for name, row in state.arrays.items()}
        return [self.places, self.numbers, self.arrays] == [state.places, state.numbers, rows]


def sum_now(now, term):
    found = now.get(term[0], (term[0], 0))
    return found[:-1] + (found[-1] + term[-1],)


def term_now(now, term):
    if term is None or len(term) == 2:
        return term and sum_now(now, term)
    return (now.get(term[0], term[0]), sum_now(now, term[1]), term[2])


def saying_now(now, saying):
    """A statement about the end of a path, told about its beginning and the arrays between."""
    return tuple(
        part if at == 0 or isinstance(part, int) else now.get(part, part) if isinstance(part, str) else term_now(now, part)
        for at, part in enumerate(saying)
    )


def up(term, number=1):
    return term[:-1] + (term[-1] + number,)


def outside(old, new, first, last):
    return [("same", old, new, None, up(first, -1), 0), ("same", old, new, up(last), None, 0)]


def equal(one, other):
    return [("value", one, other), ("value", other, one)]


def paths(steps, now, facts, many=0):
    """All paths, as tuples of what is now what, and statements, in which new arrays stand for changed ones."""
    if not steps:
        return [(now, facts)]
    (word, *parts), rest = steps[0], steps[1:]
    if word == "if":
        tests = [saying_now(now, each) for each in parts[0]]
        found = paths(parts[1] + rest, now, facts + tests, many)
        for test in tests:
            found += paths(parts[2] + rest, now, facts + opposites(test, ("", ""))[0], many)
        return found
    if word in ("set_place", "set_value"):
        return paths(rest, {**now, parts[0]: term_now(now, parts[1])}, facts, many)
    old, half, new = now.get(parts[0], parts[0]), f"zz{'abcdefghijklmn'[many]}y", f"zz{'abcdefghijklmn'[many]}z"
    first, last = (term_now(now, parts[1]),) * 2 if word == "put" else [term_now(now, each) for each in parts[-2:]]
    if word == "put":
        more = outside(old, new, first, first) + equal((new, first, 0), term_now(now, parts[2]))
    elif word == "copy":
        more = outside(old, new, first, last) + [("same", now.get(parts[1], parts[1]), new, first, last, 0)]
    else:
        more = outside(old, half, first, first) + equal((half, first, 0), (old, last, 0))
        more += outside(half, new, last, last) + equal((new, last, 0), (old, first, 0))
    return paths(rest, {**now, parts[0]: new}, facts + more, many + 1)


def plainly_has_gap(starts, part, saying):
    """Whether some state of one of some lists leads to one in which a statement is false."""
    for now, facts in paths(part, {}, []):
        for opposite in opposites(saying_now(now, saying), ("ii", "jj")):
            if any(possible(start + facts + opposite) for start in starts):
                return True
    return False


def plain_duties(ahead, steps, behind):
    """The duties of a program: their words, the lists to start from, the steps, and what they must make true."""
    index = [at for at, step in enumerate(steps) if step[0] == "loop"]
    if not index:
        return [("end", [ahead], steps, behind)]
    _, conditions, kept, body = steps[index[0]]
    stops = [kept + opposites(each, ("", ""))[0] for each in conditions]
    return [("ahead", [ahead], steps[:index[0]], kept), ("round", [kept + conditions], body, kept),
            ("end", stops, steps[index[0] + 1:], behind)]


def random_term(rng, size=2, names=("x", "y", "x", "y", "")):
    return (rng.choice(names), rng.randint(-size, size))


def random_conditions(rng, size=2, most=2):
    terms = [random_term(rng, size) for _ in range(4)]
    return [random_saying(rng, terms, words=("place", "value"), size=size) for _ in range(rng.randint(0, most))]


def random_step(rng, size=2):
    word = rng.choice(["set_place", "set_value", "put", "put", "exchange", "exchange", "copy"])
    one, other = random_term(rng, size), random_term(rng, size)
    value = random_value_term(rng, [one, other, random_term(rng, size)], "ab", "uv", size)
    if word == "set_place":
        return (word, rng.choice("xy"), one)
    if word == "set_value":
        return (word, rng.choice("uv"), value)
    if word == "put":
        return (word, rng.choice("ab"), one, value)
    if word == "exchange":
        return (word, rng.choice("ab"), one, other)
    return (word, rng.choice("ab"), rng.choice("ab"), one, other)


def random_steps(rng, many, tests=1, size=2):
    """So many steps in all, some of them within an "if"."""
    steps = []
    while many > 0:
        if tests and many > 1 and rng.random() < 0.4:
            inner = rng.randint(0, many - 1)
            yes = rng.randint(0, inner)
            steps.append(("if", random_conditions(rng, size), random_steps(rng, yes, 0, size), random_steps(rng, inner - yes, 0, size)))
            many, tests = many - inner - 1, tests - 1
        else:
            steps.append(random_step(rng, size))
            many -= 1
    return steps
