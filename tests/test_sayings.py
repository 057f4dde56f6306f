"""[2], [6], [7], [10] and the section of sayings.py."""

import copy
import random
import unittest

from allcells.errors import InvalidName, InvalidSaying, InvalidTerm, Unknown
from allcells.sayings import (
    all_true, checked, first_false, is_true, names_of, opposites, settled, terms_of, where_false,
)
from allcells.states import State
from oracle import all_new, cell, ends_of, plainly_true, random_saying, random_state

HUGE = 10 ** 30 - 1
GOOD = [
    ("place", ("", 0), ("x", -HUGE)),
    ("value", ("v", 0), ("a", ("x", 1), HUGE)),
    ("value", ("a", ("", 0), 0), ("", 0)),
    ("rising", "a", None, None),
    ("rising", "abcdef", ("x", 1), ("", -3)),
    ("low", "a", None, ("x", 0), ("v", 1)),
    ("high", "a", ("x", 0), None, ("b", ("y", 0), -1)),
    ("below", "a", None, ("x", 0), "a", ("x", 1), None, HUGE),
    ("below", "a", None, None, "b", None, None, -1),
    ("same", "a", "a", None, None, 0),
    ("same", "a", "b", ("x", 0), ("y", 0), -HUGE),
    ("low", "x", ("x", 0), ("x", 0), ("x", 0)),
]
FALSE_WORLD = State({"x": 0, "y": 4}, {"v": 9}, {"a": [(0, 3), (2, 1)], "b": [(0, 0)]})


def nested(depth, inner):
    """A list around a tuple around a list, and so on."""
    for at in range(depth):
        inner = [inner] if at % 2 else (inner,)
    return inner


class Checked(unittest.TestCase):
    def wrong(self, kind, saying, value):
        before = repr(saying)
        with self.assertRaises(kind) as caught:
            checked(saying)
        self.assertIs(type(caught.exception), kind)
        self.assertEqual(repr(caught.exception.value), repr(value))
        self.assertEqual(repr(saying), before)
        self.assertTrue(all_new(caught.exception.value, saying))

    def test_statements(self):
        for saying in GOOD:
            self.assertEqual(checked(saying), saying)
            self.assertEqual(checked(saying=saying), saying)

    def test_no_tuples(self):
        for value in [None, True, 0, "", "place", [], [("place", ("", 0), ("", 0))], ["place", ("", 0), ("", 0)],
                      nested(19, []), nested(20, "a")]:
            self.wrong(InvalidSaying, value, value)

    def test_no_words(self):
        for word in ["", "Place", "places", "equal", None, True, 0, [], ["place"], ("place",), "place "]:
            self.wrong(InvalidSaying, (word, ("", 0), ("", 0)), (word, ("", 0), ("", 0)))
        self.wrong(InvalidSaying, (), ())
        self.wrong(InvalidSaying, ([[]],), ([[]],))

    def test_lengths(self):
        for saying in GOOD:
            self.wrong(InvalidSaying, saying[:-1], saying[:-1])
            self.wrong(InvalidSaying, saying + (0,), saying + (0,))
            self.wrong(InvalidSaying, saying[:1], saying[:1])
            self.wrong(InvalidSaying, list(saying), list(saying))

    def test_numbers(self):
        for k in [None, True, False, "1", (1,), [1], []]:
            for saying in [("below", "a", None, None, "b", None, None, k), ("same", "a", "b", None, None, k),
                           ("same", "A", 3, [], True, k)]:
                self.wrong(InvalidSaying, saying, saying)

    def test_arrays(self):
        for name in ["", "A", "abcdefg", "a1", None, True, 3, ["a"], ("a",), [], "a ", [[], ([],)]]:
            self.wrong(InvalidName, ("rising", name, None, None), name)
            self.wrong(InvalidName, ("low", name, None, None, ("", 0)), name)
            self.wrong(InvalidName, ("high", name, None, None, ("", 0)), name)
            self.wrong(InvalidName, ("below", name, None, None, "a", None, None, 0), name)
            self.wrong(InvalidName, ("below", "a", None, None, name, None, None, 0), name)
            self.wrong(InvalidName, ("same", name, "a", None, None, 0), name)
            self.wrong(InvalidName, ("same", "a", name, None, None, 0), name)

    bad_plain = ["x", 3, True, [], ["x", 0], (), ("x",), ("x", 0, 0, 0), ("x", None), ("x", True), ("x", False),
                 ("x", "0"), ("X", 0), ("abcdefg", 0), (None, 0), (True, 0), (0, 0), (["x"], 0), (("x",), 0),
                 ("x", [0]), ([], [[]]), ("x", 0, None, ()), (0, "x")]

    def test_place_terms(self):
        for term in self.bad_plain + [("a", ("x", 0), 0), ("x", 0, 0)]:
            self.wrong(InvalidTerm, ("place", term, ("", 0)), term)
            self.wrong(InvalidTerm, ("place", ("", 0), term), term)
            for at in (2, 3):
                for saying in [("rising", "a", None, None), ("low", "a", None, None, ("", 0)),
                               ("high", "a", None, None, ("", 0)), ("below", "a", None, None, "b", None, None, 0)]:
                    self.wrong(InvalidTerm, saying[:at] + (term,) + saying[at + 1:], term)
            for at in (5, 6):
                saying = ("below", "a", None, None, "b", None, None, 0)
                self.wrong(InvalidTerm, saying[:at] + (term,) + saying[at + 1:], term)
            self.wrong(InvalidTerm, ("same", "a", "b", term, None, 0), term)
            self.wrong(InvalidTerm, ("same", "a", "b", None, term, 0), term)

    def test_none_where_no_end_is(self):
        self.wrong(InvalidTerm, ("place", None, ("", 0)), None)
        self.wrong(InvalidTerm, ("place", ("", 0), None), None)
        self.wrong(InvalidTerm, ("value", None, ("", 0)), None)
        self.wrong(InvalidTerm, ("value", ("", 0), None), None)
        self.wrong(InvalidTerm, ("low", "a", None, None, None), None)
        self.wrong(InvalidTerm, ("high", "a", None, None, None), None)
        self.wrong(InvalidTerm, ("value", ("a", None, 0), ("", 0)), None)

    def test_value_terms(self):
        inner = ("x", 0)
        cells = [("", inner, 0), ("A", inner, 0), (None, inner, 0), (["a"], inner, 0), ("a", inner, None),
                 ("a", inner, True), ("a", inner, [0]), ("abcdefg", inner, 0), (3, inner, 0)]
        for term in self.bad_plain + cells:
            self.wrong(InvalidTerm, ("value", term, ("", 0)), term)
            self.wrong(InvalidTerm, ("value", ("", 0), term), term)
            self.wrong(InvalidTerm, ("low", "a", None, None, term), term)
            self.wrong(InvalidTerm, ("high", "a", None, None, term), term)
        self.wrong(InvalidTerm, ("value", ["a", inner, 0], ("", 0)), ["a", inner, 0])

    def test_place_term_of_a_cell_first(self):
        for inner in self.bad_plain + [None, ("a", ("x", 0), 0), 0]:
            for array in ["a", "", "A", None, []]:
                for number in [0, True, None]:
                    self.wrong(InvalidTerm, ("value", (array, inner, number), ("", 0)), inner)

    def test_from_the_left(self):
        self.wrong(InvalidTerm, ("place", ("x", True), None), ("x", True))
        self.wrong(InvalidName, ("rising", "", 3, None), "")
        self.wrong(InvalidTerm, ("rising", "a", 3, 4), 3)
        self.wrong(InvalidTerm, ("low", "a", None, 4, None), 4)
        self.wrong(InvalidTerm, ("below", "a", 1, None, "B", None, None, 0), 1)
        self.wrong(InvalidName, ("below", "a", None, None, "B", 1, None, 0), "B")
        self.wrong(InvalidSaying, ("below", "A", 1, 1, "B", 1, 1, None), ("below", "A", 1, 1, "B", 1, 1, None))
        self.wrong(InvalidName, ("same", "A", "B", 1, 1, 0), "A")
        self.wrong(InvalidName, ("same", "a", "B", 1, 1, 0), "B")
        self.wrong(InvalidTerm, ("value", ("a", 1, 0), 2), 1)

    def test_value_of_an_error_is_not_the_list_that_was_passed(self):
        inner = [1]
        for saying, kind in [(("place", (inner, 0), ("", 0)), InvalidTerm), (("place", inner), InvalidSaying),
                             (("rising", inner, None, None), InvalidName), ([inner, (inner,)], InvalidSaying)]:
            with self.assertRaises(kind) as caught:
                checked(saying)
            before = copy.deepcopy(caught.exception.value)
            inner.append(2)
            self.assertEqual(caught.exception.value, before)
            inner.pop()

    def test_no_list_of_an_error_stands_in_two_places(self):
        inner = []
        with self.assertRaises(InvalidSaying) as caught:
            checked(("place", inner, [inner], (inner,)))
        self.assertEqual(caught.exception.value, ("place", [], [[]], ([],)))
        self.assertTrue(all_new(caught.exception.value, inner))


class TermsAndNames(unittest.TestCase):
    def test_terms(self):
        self.assertEqual(terms_of([]), [("", 0)])
        self.assertEqual(terms_of([("rising", "a", None, None), ("value", ("v", 1), ("", 3))]), [("", 0)])
        self.assertEqual(terms_of([("place", ("x", 3), ("x", -3)), ("rising", "a", None, ("", 5)),
                                   ("low", "a", ("x", 3), ("b", 0), ("c", ("", -HUGE), 2))]),
                         [("", -HUGE), ("", 5), ("b", 0), ("x", -3), ("x", 3)])
        self.assertEqual(terms_of([("value", ("a", ("z", 1), 0), ("a", ("y", 1), 0))]), [("y", 1), ("z", 1)])
        self.assertEqual(terms_of([("below", "a", ("d", 0), ("c", 0), "b", ("b", 0), ("a", 0), 4)]),
                         [("a", 0), ("b", 0), ("c", 0), ("d", 0)])
        self.assertEqual(terms_of(sayings=[("same", "a", "b", ("d", 0), ("c", 0), 4)] * 2), [("c", 0), ("d", 0)])

    def test_names(self):
        self.assertEqual(names_of([]), ([], [], []))
        self.assertEqual(names_of([("value", ("", 1), ("", 2)), ("place", ("", 1), ("", 2))]), ([], [], []))
        self.assertEqual(names_of([("low", "d", ("q", 1), ("p", 0), ("c", ("o", 0), 1)), ("value", ("w", 0), ("v", 0)),
                                   ("high", "b", None, None, ("u", 4)), ("place", ("z", 0), ("p", 1))]),
                         (["o", "p", "q", "z"], ["u", "v", "w"], ["b", "c", "d"]))
        self.assertEqual(names_of([("below", "d", None, None, "c", None, ("x", 1), 0),
                                   ("same", "b", "a", None, ("y", 0), 1)]), (["x", "y"], [], ["a", "b", "c", "d"]))
        self.assertEqual(names_of(sayings=[("rising", "a", None, None)] * 2), ([], [], ["a"]))

    def test_new_lists(self):
        sayings = [("rising", "a", ("x", 0), None)]
        for ask in (terms_of, names_of):
            first = ask(sayings)
            for each in ([first] if ask is terms_of else first):
                each.append("z")
            self.assertEqual(ask(sayings), [("x", 0)] if ask is terms_of else (["x"], [], ["a"]))
            self.assertTrue(all_new(ask([])))
        self.assertEqual(sayings, [("rising", "a", ("x", 0), None)])


class Truth(unittest.TestCase):
    state = State({"x": 2, "y": 5, "z": 5}, {"v": 4, "w": -1}, {"a": [(0, 1), (3, 4), (6, 2)], "b": [(0, 3)],
                                                              "c": [(0, 3), (5, 3)]})

    def test_places_and_values(self):
        cases = [(("place", ("x", 0), ("y", 0)), True), (("place", ("x", 3), ("y", 0)), True),
                 (("place", ("x", 4), ("y", 0)), False), (("place", ("", 5), ("z", 0)), True),
                 (("place", ("z", 1), ("", 5)), False), (("value", ("v", 0), ("", 4)), True),
                 (("value", ("v", 1), ("", 4)), False), (("value", ("a", ("y", 0), 0), ("v", 0)), True),
                 (("value", ("a", ("y", 1), 3), ("v", 0)), False), (("value", ("w", HUGE), ("v", HUGE)), True),
                 (("value", ("a", ("", -HUGE), 0), ("", 1)), True), (("value", ("a", ("", HUGE), 0), ("", 1)), False)]
        for saying, wanted in cases:
            self.assertIs(is_true(saying, self.state), wanted, saying)

    def test_stretches(self):
        cases = [(("rising", "a", None, ("y", 0)), True), (("rising", "a", None, ("y", 1)), False),
                 (("rising", "a", ("y", 0), None), False), (("rising", "a", ("y", 1), None), True),
                 (("rising", "a", None, None), False), (("rising", "b", None, None), True),
                 (("rising", "a", ("y", 1), ("x", 0)), True), (("low", "a", None, None, ("", 1)), True),
                 (("low", "a", None, None, ("", 2)), False), (("low", "a", ("", 3), None, ("", 2)), True),
                 (("low", "a", ("", 2), None, ("", 2)), False), (("low", "a", None, ("", -HUGE), ("", 1)), True),
                 (("low", "a", None, ("", -HUGE), ("", 2)), False), (("high", "a", ("", HUGE), None, ("", 2)), True),
                 (("high", "a", ("", HUGE), None, ("", 1)), False), (("high", "a", None, ("x", 0), ("", 1)), True),
                 (("high", "a", None, ("x", 1), ("", 1)), False), (("high", "a", ("x", 2), ("x", 1), ("", -9)), True),
                 (("high", "a", None, None, ("a", ("y", 0), 0)), True), (("high", "c", None, None, ("b", ("x", 0), 0)), True)]
        for saying, wanted in cases:
            self.assertIs(is_true(saying, self.state), wanted, saying)

    def test_two_arrays(self):
        cases = [(("below", "a", None, ("x", 0), "b", None, None, 2), True),
                 (("below", "a", None, ("x", 0), "b", None, None, 3), False),
                 (("below", "a", None, ("x", 1), "b", None, None, 0), False),
                 (("below", "a", ("y", 0), ("x", 0), "b", None, None, HUGE), True),
                 (("below", "b", None, None, "a", ("y", 0), ("x", 0), HUGE), True),
                 (("below", "a", ("x", 0), ("x", 0), "a", ("x", 1), None, 1), True),
                 (("below", "a", ("x", 0), ("x", 0), "a", ("x", 0), None, 1), False),
                 (("below", "a", None, None, "a", None, None, 0), False),
                 (("below", "b", None, None, "b", None, None, 0), True),
                 (("same", "b", "c", None, None, 0), True), (("same", "b", "c", None, None, 1), False),
                 (("same", "a", "b", ("", 3), ("y", 0), -1), True), (("same", "a", "b", ("", 3), ("y", 1), -1), False),
                 (("same", "b", "a", ("", 3), ("y", 0), 1), True), (("same", "a", "a", None, None, 0), True),
                 (("same", "a", "a", None, None, 1), False), (("same", "a", "a", ("y", 0), ("x", 0), 1), True)]
        for saying, wanted in cases:
            self.assertIs(is_true(saying, self.state), wanted, saying)

    def test_against_a_look_at_every_place(self):
        rng = random.Random(1)
        terms = [("n", 0), ("x", -1), ("y", 1), ("", 0), ("", 2), ("n", 2)]
        seen = {True: 0, False: 0}
        for _ in range(6000):
            saying, state = random_saying(rng, terms), random_state(rng)
            wanted = plainly_true(saying, state)
            seen[wanted] += 1
            self.assertIs(is_true(saying, state), wanted, (saying, state.arrays, state.places, state.numbers))
        self.assertGreater(min(seen.values()), 1000)

    def test_lists(self):
        good, bad = ("place", ("x", 0), ("y", 0)), ("place", ("y", 0), ("x", 0))
        for sayings, wanted in [([], None), ([good], None), ([bad], 0), ([good, bad], 1), ([good, good], None),
                                ([good, bad, bad], 1), ([good] * 39 + [bad], 39)]:
            self.assertEqual(first_false(sayings, self.state), wanted)
            self.assertIs(first_false(sayings, self.state) is None, wanted is None)
            self.assertIs(all_true(sayings, self.state), wanted is None)

    def test_by_name(self):
        saying = ("place", ("x", 0), ("y", 0))
        self.assertTrue(is_true(state=self.state, saying=saying))
        self.assertTrue(all_true(state=self.state, sayings=[saying]))
        self.assertIsNone(first_false(state=self.state, sayings=[saying]))
        self.assertEqual(where_false(state=self.state, saying=("rising", "b", None, None)), [])
        self.assertEqual(settled(state=self.state, sayings=[saying]), self.state)

    def test_sizes(self):
        rows = {"a": [(at * 10 ** 28, at // 2) for at in range(60)], "b": [(at * 10 ** 28, HUGE) for at in range(60)]}
        state = State({"x": 0}, {}, rows)
        sayings = [("below", "a", None, None, "b", None, None, 0), ("rising", "a", None, None),
                   ("same", "a", "a", ("x", 0), None, 0), ("low", "a", ("x", -HUGE), ("x", HUGE), ("", 0))] * 10
        self.assertTrue(all_true(sayings, state))
        self.assertEqual(first_false(sayings[1:] + [("high", "a", None, ("", HUGE), ("", 28))], state), 39)


class Unknowns(unittest.TestCase):
    def unknown(self, sayings, state, name):
        calls = [all_true, first_false, settled]
        if len(sayings) == 1:
            calls += [lambda given, state: is_true(given[0], state)]
            if sayings[0][0] not in ("place", "value"):
                calls += [lambda given, state: where_false(given[0], state)]
        for call in calls:
            with self.assertRaises(Unknown) as caught:
                call(sayings, state)
            self.assertEqual(caught.exception.value, name)

    def test_order(self):
        state = State({"p": 0}, {"v": 0}, {"a": [(0, 0)]})
        low = ("low", "b", ("z", 0), ("y", 0), ("c", ("x", 0), 0))
        self.unknown([low], state, "x")
        self.unknown([("low", "b", ("p", 0), None, ("w", 0))], state, "w")
        self.unknown([("low", "c", ("p", 0), None, ("b", ("p", 0), 0))], state, "b")
        self.unknown([("low", "a", None, None, ("v", 0)), ("value", ("w", 0), ("u", 0)), ("rising", "b", ("q", 0), None)],
                     state, "q")
        self.unknown([("value", ("w", 0), ("u", 0)), ("rising", "b", ("p", 0), None)], state, "u")

    def test_all_names_ahead_of_what_is_false(self):
        state = State({"p": 0}, {}, {"a": [(0, 0)]})
        self.unknown([("place", ("p", 1), ("p", 0)), ("place", ("q", 0), ("q", 0))], state, "q")
        self.unknown([("rising", "a", ("p", 1), ("p", 0)), ("low", "b", ("p", 1), ("p", 0), ("", 0))], state, "b")

    def test_roles(self):
        state = State({"p": 0}, {"v": 0}, {"a": [(0, 0)]})
        self.unknown([("place", ("v", 0), ("", 0))], state, "v")
        self.unknown([("value", ("p", 0), ("", 0))], state, "p")
        self.unknown([("rising", "p", None, None)], state, "p")

    def test_no_statement_first(self):
        empty = State({}, {}, {})
        good = ("place", ("q", 0), ("q", 0))
        for call in [lambda s: all_true(s, empty), lambda s: first_false(s, empty), lambda s: settled(s, empty),
                     terms_of, names_of]:
            with self.assertRaises(InvalidTerm) as caught:
                call([good, ("place", ("q", True), ["x"]), ("place",)])
            self.assertEqual(caught.exception.value, ("q", True))
            with self.assertRaises(InvalidSaying) as caught:
                call([good, [[]], ("place", 1, 2)])
            self.assertEqual(caught.exception.value, [[]])
        for call in [lambda s: is_true(s, empty), lambda s: where_false(s, empty), lambda s: opposites(s, ("i", "j"))]:
            with self.assertRaises(InvalidName) as caught:
                call(("rising", ["b"], ("q", 0), None))
            self.assertEqual(caught.exception.value, ["b"])


class WhereFalse(unittest.TestCase):
    state = State({"x": 1, "y": 4}, {"v": 2}, {"a": [(0, 3), (2, 1), (5, 2)], "b": [(0, 2), (3, 0)], "c": [(0, 1)]})

    def test_one_place(self):
        self.assertEqual(self.state.arrays, {"a": [(1, 3), (2, 1), (5, 2)], "b": [(2, 2), (3, 0)], "c": [(0, 1)]})
        cases = [(("low", "a", None, None, ("v", 0)), [2]), (("low", "a", ("x", 0), ("y", 0), ("v", 0)), [2, 4]),
                 (("low", "a", ("", 3), ("y", 0), ("v", 0)), [3, 4]), (("low", "a", ("", 3), ("", 3), ("v", 0)), [3]),
                 (("low", "a", ("y", 0), ("x", 0), ("v", 0)), []), (("low", "a", ("", 9), None, ("", 3)), [9]),
                 (("low", "a", None, ("", -9), ("", 4)), [-9]), (("high", "a", None, ("", -9), ("", 2)), [-9]),
                 (("high", "a", None, None, ("v", 0)), [1]), (("high", "a", None, ("x", 0), ("v", 0)), [1]),
                 (("high", "a", ("", -3), ("x", 0), ("v", 0)), [-3, 1]), (("high", "c", None, None, ("", 0)), [0]),
                 (("high", "c", None, None, ("b", ("", 3), 0)), [0]),
                 (("high", "a", None, None, ("b", ("y", 0), 1)), [1, 5])]
        for saying, wanted in cases:
            self.assertEqual(where_false(saying, self.state), wanted, saying)

    def test_rising(self):
        cases = [(("rising", "a", None, None), [(1, 2), (1, 5)]), (("rising", "a", ("", -1), ("", 3)),
                 [(-1, 2), (-1, 3), (1, 2), (1, 3)]), (("rising", "a", ("", 2), None), []),
                 (("rising", "b", None, ("y", 0)), [(2, 3), (2, 4)]), (("rising", "a", ("y", 0), ("x", 0)), []),
                 (("rising", "c", None, None), [])]
        for saying, wanted in cases:
            self.assertEqual(where_false(saying, self.state), wanted, saying)

    def test_below(self):
        self.assertEqual(where_false(("below", "c", None, None, "c", None, None, 1), self.state), [(0, 0)])
        self.assertEqual(where_false(("below", "c", ("", 7), ("", 7), "c", ("", 9), ("", 9), 1), self.state), [(7, 9)])
        self.assertEqual(where_false(("below", "c", ("y", 0), ("x", 0), "c", None, None, 1), self.state), [])
        self.assertEqual(where_false(("below", "a", None, ("x", 0), "b", ("y", 0), None, 0), self.state),
                         [(1, 4), (1, 5)])

    def test_all_tuples_and_ends_stand_in_both_stretches(self):
        saying = ("below", "b", ("", 2), ("", 6), "c", ("", 4), ("", 9), 0)
        self.assertEqual(where_false(saying, self.state), [(2, 4), (2, 6), (2, 9)])
        saying = ("below", "c", ("", 2), ("", 6), "b", ("", 1), ("", 4), 0)
        self.assertEqual(where_false(saying, self.state), [(i, j) for i in (2, 3, 4, 6) for j in (3, 4)])

    def test_same(self):
        self.assertEqual(where_false(("same", "a", "b", None, None, -1), self.state), [2, 5])
        self.assertEqual(where_false(("same", "b", "a", ("x", 0), ("y", 0), 1), self.state), [2])
        self.assertEqual(where_false(("same", "a", "a", ("", 3), ("", 7), 1), self.state), [3, 5, 7])
        self.assertEqual(where_false(("same", "a", "c", ("y", 0), ("x", 0), 1), self.state), [])
        self.assertEqual(where_false(("same", "c", "c", None, None, 1), self.state), [0])

    def test_against_the_definition(self):
        rng = random.Random(2)
        terms = [("n", 0), ("x", -1), ("y", 1), ("", 0), ("", 2), ("n", 2)]
        found = 0
        for _ in range(3000):
            saying = random_saying(rng, terms, words=("rising", "low", "high", "below", "same"))
            state = random_state(rng)
            wanted = self.plainly_false(saying, state)
            found += bool(wanted)
            self.assertEqual(where_false(saying, state), wanted)
            self.assertIs(is_true(saying, state), not wanted)
        self.assertGreater(found, 500)

    def plainly_false(self, saying, state):
        word, rows = saying[0], state.arrays
        arrays = [part for part in saying[1:] if isinstance(part, str)]
        ends = [end for ends in ends_of(saying) for end in ends if end is not None]
        pool = sorted({at for array in arrays for at, _ in rows[array]} | {state.place_of(end) for end in ends})
        inside = [[at for at in pool if (p is None or state.place_of(p) <= at) and (q is None or at <= state.place_of(q))]
                  for p, q in ends_of(saying)]
        one, other = rows[arrays[0]], rows[arrays[-1]]
        if word == "rising":
            return [(i, j) for i in inside[0] for j in inside[0] if i < j and cell(one, i) > cell(one, j)]
        if word == "below":
            return [(i, j) for i in inside[0] for j in inside[1] if cell(one, i) + saying[7] > cell(other, j)]
        if word == "same":
            return [i for i in inside[0] if cell(one, i) + saying[5] != cell(other, i)]
        number = state.value_of(saying[4])
        return [i for i in inside[0] if (cell(one, i) < number if word == "low" else cell(one, i) > number)]

    def test_new_lists(self):
        saying = ("low", "c", None, None, ("v", 0))
        where_false(saying, self.state).append(8)
        self.assertEqual(where_false(saying, self.state), [0])


class Settled(unittest.TestCase):
    def test_ordinary(self):
        state = State({"x": 2, "y": 6}, {"v": 1}, {"a": [(0, 1), (3, 5), (5, 7), (8, 9)], "b": [(0, 2), (4, 3)]})
        after = settled([("rising", "a", ("x", 0), ("y", 0))], state)
        self.assertEqual(after.arrays, {"a": [(5, 1), (6, 7)], "b": state.arrays["b"]})
        self.assertEqual([after.places, after.numbers], [state.places, state.numbers])

    def test_below_all_terms(self):
        state = State({"x": 2}, {}, {"a": [(0, 1), (1, 2), (3, 4)]})
        self.assertEqual(settled([("rising", "a", ("x", 0), ("x", 5))], state).arrays["a"], [(6, 2), (7, 4)])

    def test_without_terms(self):
        state = State({}, {}, {"a": [(0, 1), (1, 2), (3, 4)]})
        self.assertEqual(settled([("rising", "a", None, None)], state).arrays["a"], [(0, 1)])
        self.assertEqual(settled([], state), state)

    def test_arrays_within_value_terms(self):
        state = State({}, {}, {"a": [(0, 1), (1, 2), (3, 4)], "b": [(0, 1), (1, 2), (3, 4)]})
        sayings = [("value", ("a", ("", 1), 0), ("", 9)), ("place", ("", 2), ("", 3))]
        self.assertEqual(settled(sayings, state).arrays, {"a": [(2, 2), (3, 4)], "b": [(0, 1), (1, 2), (3, 4)]})

    def test_what_is_true_stays_true(self):
        rng = random.Random(4)
        terms = [("n", 0), ("x", -1), ("y", 1), ("", 0)]
        kept = 0
        for _ in range(5000):
            sayings = [random_saying(rng, terms) for _ in range(rng.randint(1, 3))]
            state = random_state(rng)
            after = settled(sayings, state)
            spots = sorted(state.place_of(term) for term in terms_of(sayings))
            for array in "ab":
                for at in range(-9, 10):
                    lower = [spot for spot in spots if spot <= at]
                    spot = (lower[-1] if lower else spots[0]) if array in names_of(sayings)[2] else at
                    self.assertEqual(cell(after.arrays[array], at), cell(state.arrays[array], spot))
            if all_true(sayings, state):
                kept += 1
                self.assertTrue(all_true(sayings, after))
        self.assertGreater(kept, 400)

    def test_state_is_not_changed(self):
        state = State({}, {}, {"a": [(0, 1), (1, 2), (3, 4)]})
        settled([("rising", "a", None, None)], state)
        self.assertEqual(state, State({}, {}, {"a": [(0, 1), (1, 2), (3, 4)]}))


class Opposites(unittest.TestCase):
    i, j = ("i", 0), ("j", 0)
    p, q, r, s = ("p", 1), ("q", 2), ("r", 3), ("s", 4)

    def check(self, saying, wanted):
        self.assertEqual(opposites(saying, ("i", "j")), wanted)
        self.assertEqual(opposites(fresh=("i", "j"), saying=saying), wanted)

    def test_places_and_values(self):
        self.check(("place", self.p, self.q), [[("place", ("q", 3), self.p)]])
        self.check(("place", ("", -1), ("", -1)), [[("place", ("", 0), ("", -1))]])
        self.check(("value", ("v", 1), ("a", self.p, -1)), [[("value", ("a", self.p, 0), ("v", 1))]])
        self.check(("value", ("a", self.p, 5), ("", HUGE)), [[("value", ("", HUGE + 1), ("a", self.p, 5))]])

    def test_rising(self):
        p, q, i, j = self.p, self.q, self.i, self.j
        last = ("value", ("a", j, 1), ("a", i, 0))
        self.check(("rising", "a", p, q), [[("place", p, i), ("place", i, j), ("place", j, q), last]])
        self.check(("rising", "a", None, q), [[("place", i, j), ("place", j, q), last]])
        self.check(("rising", "a", p, None), [[("place", p, i), ("place", i, j), last]])
        self.check(("rising", "a", None, None), [[("place", i, j), last]])

    def test_low_and_high(self):
        p, q, i = self.p, self.q, self.i
        u = ("b", ("n", 3), 4)
        self.check(("low", "a", p, q, u), [[("place", p, i), ("place", i, q), ("value", ("a", i, 1), u)]])
        self.check(("low", "a", None, q, u), [[("place", i, q), ("value", ("a", i, 1), u)]])
        self.check(("low", "a", p, None, ("v", 2)), [[("place", p, i), ("value", ("a", i, 1), ("v", 2))]])
        self.check(("low", "a", None, None, ("", 2)), [[("value", ("a", i, 1), ("", 2))]])
        self.check(("high", "a", p, q, u),
                   [[("place", p, i), ("place", i, q), ("value", ("b", ("n", 3), 5), ("a", i, 0))]])
        self.check(("high", "a", None, None, ("", -1)), [[("value", ("", 0), ("a", i, 0))]])

    def test_below(self):
        p, q, r, s, i, j = self.p, self.q, self.r, self.s, self.i, self.j
        self.check(("below", "a", p, q, "b", r, s, 7), [[("place", p, i), ("place", i, q), ("place", r, j), ("place", j, s),
                                                        ("value", ("b", j, 1), ("a", i, 7))]])
        self.check(("below", "a", None, q, "a", r, None, -7), [[("place", i, q), ("place", r, j),
                                                               ("value", ("a", j, 1), ("a", i, -7))]])
        self.check(("below", "a", None, None, "b", None, None, 0), [[("value", ("b", j, 1), ("a", i, 0))]])

    def test_same(self):
        p, q, i = self.p, self.q, self.i
        self.check(("same", "a", "b", p, q, 7),
                   [[("place", p, i), ("place", i, q), ("value", ("a", i, 8), ("b", i, 0))],
                    [("place", p, i), ("place", i, q), ("value", ("b", i, 1), ("a", i, 7))]])
        self.check(("same", "a", "a", None, None, -1), [[("value", ("a", i, 0), ("a", i, 0))],
                                                       [("value", ("a", i, 1), ("a", i, -1))]])

    def test_names_of_the_caller(self):
        self.assertEqual(opposites(("rising", "a", None, None), ("k", "l")),
                         [[("place", ("k", 0), ("l", 0)), ("value", ("a", ("l", 0), 1), ("a", ("k", 0), 0))]])

    def test_true_just_where_the_statement_is_false(self):
        rng = random.Random(8)
        terms = [("n", 0), ("x", -1), ("y", 1), ("", 0)]
        for _ in range(400):
            saying, state = random_saying(rng, terms), random_state(rng, size=3, length=3)
            lists = opposites(saying, ("i", "j"))
            many = 1 if saying[0] in ("place", "value") else 15
            tries = [State({**state.places, "i": i - 7, "j": j - 7}, state.numbers, state.arrays)
                     for i in range(many) for j in range(many if saying[0] in ("rising", "below") else 1)]
            found = any(all_true(each, told) for each in lists for told in tries)
            self.assertIs(found, not is_true(saying, state), saying)

    def test_new_lists(self):
        first = opposites(("same", "a", "b", None, None, 7), ("i", "j"))
        self.assertTrue(all_new(first))
        wanted = copy.deepcopy(first)
        first[0].append(3)
        first.append([])
        self.check(("same", "a", "b", None, None, 7), wanted)


class Unchanged(unittest.TestCase):
    def test_lists_that_are_passed(self):
        sayings = [saying for saying in GOOD if saying[1] not in ("x", "abcdef")]
        before = list(sayings)
        for call in [terms_of, names_of, lambda s: all_true(s, FALSE_WORLD), lambda s: first_false(s, FALSE_WORLD),
                     lambda s: settled(s, FALSE_WORLD)]:
            call(sayings)
            self.assertEqual(sayings, before)


if __name__ == "__main__":
    unittest.main()
