"""[4], [6], [7], [9] and the section of bounds.py."""

import random
import unittest

from allcells.bounds import place_bounds, state_with, value_bounds
from allcells.errors import InvalidName, InvalidSaying, InvalidTerm
from allcells.sayings import all_true, names_of
from allcells.states import State
from oracle import plainly_possible, random_saying, random_value_term
from refusing import Refusing

X, Y, Z, ZERO = ("x", 0), ("y", 0), ("z", 0), ("", 0)
AX, AY, AZERO = ("a", X, 0), ("a", Y, 0), ("a", ZERO, 0)
FALSE = ("value", ("", 1), ZERO)
FAR = 10 ** 9


def higher(term, number):
    return (*term[:-1], term[-1] + number)


class Asking(unittest.TestCase):
    def values(self, sayings, u, v, wanted):
        before = repr([sayings, u, v])
        self.assertEqual(value_bounds(sayings, u, v), wanted, before)
        turned = None if wanted is None else tuple(None if each is None else -each for each in wanted[::-1])
        self.assertEqual(value_bounds(sayings, v, u), turned, before)
        self.look_at_states(sayings, u, v, wanted)
        self.assertEqual(repr([sayings, u, v]), before)

    def places(self, sayings, p, q, wanted):
        before = repr([sayings, p, q])
        self.assertEqual(place_bounds(sayings, p, q), wanted, before)
        turned = None if wanted is None else tuple(None if each is None else -each for each in wanted[::-1])
        self.assertEqual(place_bounds(sayings, q, p), turned, before)
        self.assertEqual(repr([sayings, p, q]), before)

    def look_at_states(self, sayings, u, v, wanted):
        """A state for each number between the bounds, or for many, none outside."""
        if wanted is None:
            for number in (-1, 0, 7, FAR):
                self.assertIsNone(state_with(sayings, u, v, number))
            return
        least, most = wanted
        first = least if least is not None else (0 if most is None else most) - 9
        last = most if most is not None else first + 18
        inside = list(range(first, last + 1))[:40] + [last]
        inside += [-FAR, -3 * FAR] if least is None else []
        inside += [FAR, 7 * FAR] if most is None else []
        for number in inside:
            state = state_with(sayings, u, v, number)
            self.assertIsInstance(state, State)
            self.assertTrue(all_true(sayings, state))
            self.assertEqual(state.value_of(v) - state.value_of(u), number)
            names = names_of(sayings + [("value", u, v)])
            self.assertEqual((sorted(state.places), sorted(state.numbers), sorted(state.arrays)), names)
        outside = [] if least is None else [least - 1, least - FAR]
        outside += [] if most is None else [most + 1, most + FAR]
        for number in outside:
            self.assertIsNone(state_with(sayings, u, v, number))


class Values(Asking):
    def test_a_bound_on_each_side(self):
        u, v = ("u", 0), ("v", 0)
        self.values([], u, v, (None, None))
        self.values([("value", u, ("v", 3))], u, v, (-3, None))
        self.values([("value", v, ("u", 5))], u, v, (None, 5))
        self.values([("value", ("u", 2), v), ("value", v, ("u", 5))], u, v, (2, 5))
        self.values([("value", ("u", 2), v), ("value", v, ("u", 2))], u, v, (2, 2))
        self.values([("value", ("u", 2), v), ("value", v, ("u", 5))], ("u", 10), ("v", -1), (-9, -6))

    def test_true_in_no_state(self):
        u, v = ("u", 0), ("v", 0)
        self.values([FALSE], u, v, None)
        self.values([("place", ("x", 1), X)], u, ("u", 0), None)
        self.values([("value", ("u", 3), v), ("value", v, ("u", 2))], AX, AY, None)

    def test_one_name(self):
        self.values([], ("v", 0), ("v", 0), (0, 0))
        self.values([], ("v", 3), ("v", -4), (-7, -7))
        self.values([], ("", 3), ("", 10), (7, 7))
        self.values([], ("a", X, 3), ("a", X, 5), (2, 2))
        self.values([], ("a", X, 0), ("a", ("x", 1), 0), (None, None))
        self.values([], ("a", X, 0), ("b", X, 0), (None, None))

    def test_the_empty_name(self):
        self.values([("value", ("", 3), ("v", 0)), ("value", ("v", 1), ("", 9))], ZERO, ("v", 0), (3, 8))
        self.values([("low", "a", None, None, ("", 4))], ("", 1), AX, (3, None))
        self.values([("high", "a", None, None, ("", 4)), ("low", "a", X, Y, ("", -4))], ZERO, AX, (None, 4))
        self.values([("high", "a", None, None, ("", 4)), ("low", "a", X, Y, ("", -4)), ("place", X, Y)], ZERO, AX, (-4, 4))

    def test_cells_at_places_that_may_be_equal(self):
        self.values([("rising", "a", None, None), ("place", X, Y)], AX, AY, (0, None))
        self.values([("rising", "a", None, None)], AX, AY, (None, None))
        self.values([("place", X, Y), ("place", Y, X)], AX, AY, (0, 0))
        self.values([("place", X, Y), ("place", Y, ("x", 1))], AX, AY, (None, None))
        near = [("below", "a", X, X, "a", ("x", 1), ("x", 1), 2), ("below", "a", ("x", 1), ("x", 1), "a", X, X, -5)]
        either = near + [("place", X, Y), ("place", Y, ("x", 1))]
        self.assertEqual(value_bounds(either, AX, AY), (0, 5))
        self.assertEqual(value_bounds(either, AY, AX), (-5, 0))
        found = [number for number in range(-2, 8) if state_with(either, AX, AY, number) is not None]
        self.assertEqual(found, [0, 2, 3, 4, 5])
        self.values(near + [("place", ("x", 1), Y), ("place", Y, ("x", 1))], AX, AY, (2, 5))

    def test_through_arrays(self):
        self.values([("same", "a", "b", X, Y, 4), ("place", X, Y)], AX, ("b", X, 0), (4, 4))
        self.values([("same", "a", "b", X, Y, 4)], AX, ("b", X, 0), (None, None))
        self.values([("below", "a", None, None, "a", None, None, -6)], AX, AZERO, (-6, 6))
        self.values([("below", "a", None, X, "a", ("x", 1), None, 3), ("place", Y, X), ("place", ("x", 1), Z)],
                    AY, ("a", Z, 0), (3, None))

    def test_orders_that_statements_of_values_rule_out(self):
        here = [("low", "a", X, None, ("v", 1)), ("high", "a", None, Y, ("v", 0))]
        self.values(here + [("value", ("a", Z, 0), ("v", 0))], ("v", 0), ("a", Z, 0), (None, 0))
        self.values(here + [("place", Y, Z), ("place", X, Z)], ("v", 0), ("a", Z, 0), (1, None))

    def test_large_numbers(self):
        chain = [("value", ("u", 1000), ("a", X, -1000)), ("same", "a", "b", None, None, 1000), ("value", ("b", X, -1000), ("v", -1000))]
        self.values(chain, ("u", -1000), ("v", 1000), (5000, None))
        names = [(one, other) for one, other in zip("pqrs", "qrst")]
        far = [("value", (one, 1000), (other, -1000)) for one, other in names]
        self.values(far, ("p", 1000), ("t", -1000), (6000, None))
        far = [("place", (one, 1000), (other, -1000)) for one, other in names]
        self.places(far, ("p", 1000), ("t", -1000), (6000, None))
        far = [("low", "a", each, each, ("u", 1000)) for each in (X, Y)] + [("below", "a", X, Y, "b", Z, Z, 1000), ("place", X, Y),
                                                                   ("value", ("b", Z, 1000), ("v", -1000))]
        self.values(far, ("u", -1000), ("v", 1000), (6000, None))

    def test_beside_plain_answers(self):
        rng = random.Random(40)
        kinds = {}
        for _ in range(60):
            terms = rng.choice([[X, Y], [X, ("x", 1)], [ZERO, X]])
            sayings = [random_saying(rng, terms, arrays="a", values="uv") for _ in range(rng.randint(0, 5))]
            u, v = (random_value_term(rng, terms, "a", "uv", 2) for _ in range(2))
            found = value_bounds(sayings, u, v)
            kinds[found if found is None else (found[0] is None, found[1] is None)] = True
            self.assertEqual(found is not None, plainly_possible(sayings))
            if found is not None:
                for (low, high), bound in (((u, v), found[0]), ((v, u), None if found[1] is None else -found[1])):
                    most = -FAR if bound is None else bound
                    self.assertTrue(plainly_possible(sayings + [("value", high, higher(low, most))]), (sayings, u, v))
                    if bound is not None:
                        self.assertFalse(plainly_possible(sayings + [("value", high, higher(low, most - 1))]), (sayings, u, v))
            if found is not None:
                for number in [each for each in found if each is not None]:
                    self.assertIsNotNone(state_with(sayings, u, v, number))
        self.assertGreater(len(kinds), 3)


class Places(Asking):
    def test_a_bound_on_each_side(self):
        self.places([], X, Y, (None, None))
        self.places([("place", X, ("y", 3))], X, Y, (-3, None))
        self.places([("place", Y, ("x", 5))], X, Y, (None, 5))
        self.places([("place", ("x", 2), Y), ("place", Y, ("x", 5))], X, Y, (2, 5))
        self.places([("place", ("x", 2), Y), ("place", Y, ("x", 2))], ("x", 1), ("y", 1), (2, 2))

    def test_one_name_and_the_empty_name(self):
        self.places([], X, ("x", 4), (4, 4))
        self.places([], ("", 4), ("", 1), (-3, -3))
        self.places([("place", ("", 2), X), ("place", X, ("", 6))], ZERO, X, (2, 6))
        self.places([("rising", "a", X, Y)], X, X, (0, 0))

    def test_true_in_no_state(self):
        self.places([FALSE], X, Y, None)
        self.places([("place", ("x", 1), X)], ("", 1), ("", 1), None)
        self.places([("same", "a", "a", X, X, 1)], Y, Z, None)

    def test_what_values_tell_of_places(self):
        falls = ("value", ("a", Y, 1), AX)
        self.places([("rising", "a", None, None), falls], X, Y, (None, -1))
        self.places([("rising", "a", ("x", -3), ("x", 3)), falls], X, Y, (None, None))
        self.places([("rising", "a", ("x", -3), ("x", 3)), falls, ("place", X, Y)], X, Y, (4, None))
        self.places([("below", "a", None, X, "a", ("x", 1), None, 1), ("value", AY, AX), ("value", AX, AY)], X, Y, (None, 0))
        self.places([("low", "a", X, Y, ("", 1)), ("high", "a", X, Y, ("", 0))], X, Y, (None, -1))

    def test_beside_plain_answers(self):
        rng = random.Random(41)
        kinds = {}
        for _ in range(60):
            terms = rng.choice([[X, Y], [X, ("y", 1)], [ZERO, X, Y]])
            words = rng.choice([("place", "place", "rising", "value", "low", "high", "below", "same"), ("rising", "value", "place")])
            sayings = [random_saying(rng, terms, arrays="a", values="v", words=words) for _ in range(rng.randint(1, 5))]
            p, q = rng.choice(terms), rng.choice([X, Y])
            found = place_bounds(sayings, p, q)
            kinds[found if found is None else (found[0] is None, found[1] is None)] = True
            self.assertEqual(found is not None, plainly_possible(sayings))
            if found is not None:
                for (low, high), bound in (((p, q), found[0]), ((q, p), None if found[1] is None else -found[1])):
                    most = -FAR if bound is None else bound
                    self.assertTrue(plainly_possible(sayings + [("place", high, higher(low, most))]), (sayings, p, q))
                    if bound is not None:
                        self.assertFalse(plainly_possible(sayings + [("place", high, higher(low, most - 1))]), (sayings, p, q))
        self.assertGreater(len(kinds), 4)


class Arguments(unittest.TestCase):
    def test_by_name(self):
        here = [("value", ("u", 1), ("v", 0))]
        self.assertEqual(value_bounds(sayings=here, u=("u", 0), v=("v", 0)), (1, None))
        self.assertEqual(place_bounds(sayings=here, q=Y, p=X), (None, None))
        self.assertEqual(state_with(sayings=here, number=4, u=("u", 0), v=("v", 0)).places, {})

    def test_huge_number(self):
        huge = 10 ** 61
        state = state_with([("value", ("u", 1), ("v", 0))], ("u", 0), ("a", X, 5), -huge)
        self.assertEqual(state.value_of(("a", X, 5)), state.value_of(("u", 0)) - huge)
        self.assertIsNone(state_with([("value", ("u", 1), ("v", 0))], ("u", 0), ("v", 0), -huge))


class Errors(Refusing):
    def test_of_value_terms(self):
        def stated(sayings, u, v):
            return state_with(sayings, u, v, 0)

        good = ("v", 0)
        for call in (value_bounds, stated):
            for bad, value in [(None, None), ("v", "v"), (("v", True), ("v", True)), (("V", 0), ("V", 0)), (["v", 0], ["v", 0]),
                               (("a", ("x", None), 0), ("x", None)), (("", X, 0), ("", X, 0)), (("a", X, "1"), ("a", X, "1")),
                               (("A", ("x", []), 0), ("x", [])), (("v", 0, 0), 0), (7, 7), ((), ())]:
                self.refused(InvalidTerm, value, call, [], bad, good)
                self.refused(InvalidTerm, value, call, [], good, bad)
                self.refused(InvalidTerm, value, call, [FALSE], bad, ("w",))
                self.refused(InvalidTerm, value, call, [FALSE], good, bad)

    def test_of_place_terms(self):
        for bad in (None, "x", ("x", True), ("x", 0, 0), ["x", 0], ("abcdefg", 0), ("a", X, 0), (1, 1)):
            self.refused(InvalidTerm, bad, place_bounds, [], bad, X)
            self.refused(InvalidTerm, bad, place_bounds, [FALSE], X, bad)
            self.refused(InvalidTerm, bad, place_bounds, [FALSE], bad, 3)

    def test_statements_ahead_of_terms(self):
        def stated(sayings, u, v):
            return state_with(sayings, u, v, 0)

        for call in (value_bounds, place_bounds, stated):
            self.refused(InvalidSaying, ("place", X), call, [FALSE, ("place", X), ("rising", "", X, X)], None, None)
            self.refused(InvalidName, "", call, [("rising", "", 3, 4)], None, ("x", 0))
            self.refused(InvalidTerm, 3, call, [("rising", "a", 3, 4)], ("x", 0), 5)


if __name__ == "__main__":
    unittest.main()
