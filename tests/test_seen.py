"""The section of seen.py, [2], [6] and [9]."""

import random
import unittest

from allcells.errors import InvalidName, InvalidSaying, InvalidTerm, Unknown
from allcells.follows import alike, follows, thinned
from allcells.seen import fitting, strictest_state, strongest
from allcells.states import State
from oracle import all_new, plainly_true, random_saying, random_state
from refusing import Refusing

X, Y, ZERO = ("x", 0), ("y", 0), ("", 0)
CALLS = (fitting, strongest, strictest_state)


def at(number, value=0):
    return State({"x": number}, {"v": value}, {"a": [(0, number), (1, value)]})


class Fitting(unittest.TestCase):
    def test_no_state_and_no_statement(self):
        sayings = [("value", ("", 1), ZERO), ("place", X, Y), ("value", ("", 1), ZERO)]
        self.assertEqual(fitting(sayings, []), [0, 1, 2])
        self.assertEqual(fitting([], []), [])
        self.assertEqual(fitting([], [at(1), at(2)]), [])

    def test_true_in_all_and_not_in_some(self):
        states = [at(1), at(2), at(5)]
        sayings = [("place", X, ("", 4)), ("place", ("", 1), X), ("place", X, ("", 5)), ("place", ("", 2), X)]
        self.assertEqual(fitting(sayings, states), [1, 2])
        self.assertEqual(fitting(sayings, states[:2]), [0, 1, 2])
        self.assertEqual(fitting(sayings, states[1:]), [1, 2, 3])
        self.assertEqual(fitting(sayings, states[::-1]), [1, 2])

    def test_alike_but_for_one_number(self):
        sayings = [("place", X, ("", 3)), ("value", ("v", 0), ("", 8))]
        self.assertEqual(fitting(sayings, [at(3, 8), at(3, 8)]), [0, 1])
        self.assertEqual(fitting(sayings, [at(3, 8), at(4, 8)]), [1])
        self.assertEqual(fitting(sayings, [at(3, 8), at(3, 9)]), [0])

    def test_alike_but_for_one_cell(self):
        one = State({}, {}, {"a": [(0, 1), (3, 2), (4, 5)]})
        other = one.with_cell("a", 7, 4)
        sayings = [("rising", "a", ZERO, ("", 7)), ("rising", "a", ZERO, ("", 6)), ("high", "a", ("", 7), ("", 7), ("", 4))]
        self.assertEqual(fitting(sayings, [one]), [0, 1])
        self.assertEqual(fitting(sayings, [other]), [1, 2])
        self.assertEqual(fitting(sayings, [one, other]), [1])

    def test_a_statement_twice(self):
        self.assertEqual(fitting([("place", X, X)] * 3, [at(0)]), [0, 1, 2])

    def test_beside_plain_truth(self):
        rng = random.Random(60)
        terms = [ZERO, X, ("x", 1), Y, ("n", -1)]
        sizes = []
        for _ in range(150):
            sayings = [random_saying(rng, terms) for _ in range(rng.randint(0, 7))]
            states = [random_state(rng) for _ in range(rng.randint(0, 3))]
            truths = [[plainly_true(saying, state) for saying in sayings] for state in states]
            wanted = [index for index in range(len(sayings)) if all(row[index] for row in truths)]
            self.assertEqual(fitting(sayings, states), wanted)
            counts = [sum(row) for row in truths]
            self.assertEqual(strictest_state(sayings, states), counts.index(min(counts)) if counts else None)
            sizes.append(len(wanted))
        self.assertGreater(len(set(sizes)), 4)


class Strongest(unittest.TestCase):
    def test_what_follows_is_left_out(self):
        weak, strong = ("low", "a", ZERO, Y, ZERO), ("low", "a", ZERO, Y, ("", 1))
        state = State({"y": 4}, {}, {"a": [(0, 3)]})
        self.assertEqual(strongest([weak, strong], [state]), [strong])
        self.assertEqual(strongest([strong, weak], [state]), [strong])
        self.assertEqual(strongest([strong, ("place", ZERO, Y), weak], [state]), [strong, ("place", ZERO, Y)])

    def test_from_the_last_to_the_first(self):
        one, other = ("value", X, Y), ("value", ("x", 3), ("y", 3))
        state = State({}, {"x": 0, "y": 0}, {})
        self.assertEqual(strongest([one, other], [state]), [one])
        self.assertEqual(strongest([other, one], [state]), [other])
        ring = [("place", X, Y), ("place", Y, X), ("same", "a", "b", X, Y, 0), ("same", "a", "b", Y, X, 0),
                ("same", "b", "a", Y, Y, 0)]
        state = State({"x": 1, "y": 1}, {}, {"a": [(0, 0)], "b": [(0, 0)]})
        self.assertEqual(strongest(ring, [state]), ring[:3])
        self.assertEqual(strongest(ring[::-1], [state]), [ring[4], ring[1], ring[0]])

    def test_only_what_fits_is_counted(self):
        """A statement that is false in a state makes no other needless."""
        strong, weak = ("place", ("x", 2), Y), ("place", X, Y)
        state = State({"x": 0, "y": 1}, {}, {})
        self.assertEqual(strongest([strong, weak], [state]), [weak])
        self.assertEqual(strongest([strong, weak], []), [strong])

    def test_always_true(self):
        self.assertEqual(strongest([("place", X, X), ("same", "a", "a", None, None, 0)], [at(0)]), [])
        self.assertEqual(strongest([], []), [])
        self.assertEqual(strongest([], [at(0)]), [])

    def test_no_state_and_a_contradiction(self):
        sayings = [("place", ("x", 1), X), ("place", X, Y), ("value", ("", 1), ZERO)]
        self.assertEqual(strongest(sayings, []), sayings[:1])
        self.assertEqual(strongest(sayings[1:], []), sayings[2:])

    def test_what_thinned_leaves(self):
        rng = random.Random(61)
        thinner = 0
        for _ in range(60):
            terms = rng.choice([[ZERO, X], [X, Y], [X, ("x", 1), Y]])
            states = [random_state(rng) for _ in range(rng.randint(0, 2))]
            sayings = [random_saying(rng, terms, size=1) for _ in range(rng.randint(0, 6))]
            fit = [sayings[index] for index in fitting(sayings, states)]
            left = strongest(sayings, states)
            self.assertEqual(left, thinned(fit))
            self.assertTrue(alike(fit, left))
            for index in range(len(left)):
                self.assertFalse(follows(left[:index] + left[index + 1:], left[index]))
            thinner += len(left) < len(fit)
        self.assertGreater(thinner, 10)


class Strictest(unittest.TestCase):
    def test_no_state_and_no_statement(self):
        self.assertIs(strictest_state([("place", X, Y)], []), None)
        self.assertIs(strictest_state([], []), None)
        self.assertEqual(strictest_state([], [at(1), at(2)]), 0)

    def test_the_fewest(self):
        sayings = [("place", X, ("", 4)), ("place", X, ("", 6)), ("place", X, ("", 8))]
        self.assertEqual(strictest_state(sayings, [at(1), at(5), at(7)]), 2)
        self.assertEqual(strictest_state(sayings, [at(7), at(5), at(1)]), 0)
        self.assertEqual(strictest_state(sayings, [at(5), at(9), at(7)]), 1)

    def test_the_first_of_several(self):
        sayings = [("place", X, ("", 4)), ("place", ("", 6), X)]
        self.assertEqual(strictest_state(sayings, [at(1), at(9)]), 0)
        self.assertEqual(strictest_state(sayings, [at(1), at(5), at(5)]), 1)
        self.assertEqual(strictest_state(sayings, [at(9), at(9)]), 0)

    def test_a_statement_twice_counts_twice(self):
        twice = [("place", X, ("", 4))] * 2 + [("place", ("", 6), X)]
        self.assertEqual(strictest_state(twice, [at(1), at(9)]), 1)


class Errors(Refusing):
    def test_what_is_no_statement(self):
        for call in CALLS:
            for states in ([], [at(0)], [State({}, {}, {})]):
                self.refused(InvalidSaying, ("place", X), call, [("place", X, Y), ("place", X), 3], states)
                self.refused(InvalidTerm, [["x"], 0], call, [("place", X, [["x"], 0]), ("place",)], states)
                self.refused(InvalidName, "", call, [("rising", "", None, None)], states)
                self.refused(InvalidSaying, None, call, [None], states)

    def test_names_that_a_state_lacks(self):
        sayings = [("low", "b", None, Y, ("w", 0)), ("place", ("z", 0), X), ("value", ("a", X, 0), ("v", 0))]
        there = [{"x": 0, "y": 0, "z": 0}, {"v": 0, "w": 0}, {"a": [(0, 0)], "b": [(0, 0)]}]
        whole = State(*there)
        for call in CALLS:
            for part, name in [(0, "x"), (0, "y"), (0, "z"), (1, "v"), (1, "w"), (2, "a"), (2, "b")]:
                lacking = [{one: names[one] for one in names if at != part or one != name} for at, names in enumerate(there)]
                for states in ([State(*lacking)], [whole, State(*lacking)], [whole, State(*lacking), State({}, {}, {})]):
                    self.refused(Unknown, name, call, sayings, states)
            self.refused(Unknown, "x", call, sayings, [State({}, {}, {})])
            self.refused(Unknown, "v", call, sayings, [State(there[0], {}, {})])
            self.refused(Unknown, "a", call, sayings, [State(there[0], there[1], {})])

    def test_state_by_state(self):
        """A name that the first state has, but the second one lacks, comes after all of the first one's."""
        sayings = [("place", X, Y), ("value", ("v", 0), ZERO)]
        one, other = State({"x": 0, "y": 0}, {}, {}), State({}, {"v": 0}, {})
        for call in CALLS:
            self.refused(Unknown, "v", call, sayings, [one, other])
            self.refused(Unknown, "x", call, sayings, [other, one])

    def test_also_if_an_earlier_state_settles_it(self):
        false = ("place", X, ("x", -1))
        for call in CALLS:
            self.refused(Unknown, "x", call, [false], [at(0), State({}, {}, {})])
            self.refused(Unknown, "y", call, [false, ("place", Y, Y)], [at(0)])

    def test_no_statement_needs_no_name(self):
        for states in ([State({}, {}, {})], [State({}, {}, {}), at(0)]):
            self.assertEqual(fitting([("value", ZERO, ZERO), ("place", ZERO, ("", 1))], states), [0, 1])


class General(unittest.TestCase):
    def test_new_and_unchanged(self):
        sayings = [("place", X, ("", 4)), ("value", ("v", 0), ("", 8))]
        states = [at(1), at(2)]
        for call in (fitting, strongest):
            first, second = call(sayings, states), call(sayings, states)
            self.assertEqual(first, second)
            self.assertTrue(all_new([first], [second, sayings, states]))
            first.append(7)
            self.assertEqual(call(sayings, states), second)
        self.assertEqual(sayings, [("place", X, ("", 4)), ("value", ("v", 0), ("", 8))])
        self.assertTrue(states == [at(1), at(2)])

    def test_by_name(self):
        sayings, states = [("place", X, ("", 1))], [at(1), at(2)]
        self.assertEqual(fitting(states=states, sayings=sayings), [])
        self.assertEqual(strongest(states=states[:1], sayings=sayings), sayings)
        self.assertEqual(strictest_state(states=states, sayings=sayings), 1)


if __name__ == "__main__":
    unittest.main()
