"""[8] and judge_clash: right trees, spoilt trees, and values that are no trees."""

import random
import unittest

from allcells.decide import clash, judge_clash, possible
from oracle import WORDS, mutants, plainly_shows, random_saying

X, Y, Z, ZERO = ("x", 0), ("y", 0), ("z", 0), ("", 0)
AX, AY, AZ = ("a", X), ("a", Y), ("a", Z)


class Judging(unittest.TestCase):
    def right(self, sayings, told):
        before = repr([sayings, told])
        self.assertIs(judge_clash(sayings, told), True)
        self.assertEqual(repr([sayings, told]), before)
        self.assertTrue(plainly_shows(sayings, told))

    def wrong(self, sayings, told):
        before = repr([sayings, told])
        self.assertIs(judge_clash(sayings, told), False, told)
        self.assertEqual(repr([sayings, told]), before)
        self.assertFalse(plainly_shows(sayings, told), told)

    def spoil(self, sayings, told):
        """Returns the values that differ in one place, and are right all the same."""
        self.right(sayings, told)
        different = [each for each in mutants(told) if repr(each) != repr(told)]
        return [each for each in different if judge_clash(sayings, each)]


class Said(Judging):
    places = [("place", ("x", 2), Y), ("place", Y, ("x", 1))]
    ring = ("ring", [("x", 2, "y", ("said", 0)), ("y", -1, "x", ("said", 1))])

    def test_places(self):
        self.assertEqual(self.spoil(self.places, self.ring), [])
        self.right(self.places, ("ring", self.ring[1][::-1]))
        self.right(self.places, ("ring", self.ring[1] * 2))

    def test_spoilt(self):
        first, second = self.ring[1]
        for entries in [[], [first], [second], [first, first], [first, second, first], [second, second],
                        [("x", 3, "y", ("said", 0)), second], [("x", 1, "y", ("said", 0)), second],
                        [("x", True, "x", ("said", 0))], [("x", 2, "y", ("said", 1)), second],
                        [("x", 2, "y", ("said", False)), second], [("x", 2, "y", ("said", -2)), second],
                        [("x", 2, "y", ["said", 0]), second], [("x", 2, "y", ("said", 0, [])), second],
                        [("x", 2, "y", ("said", 0, [], [])), second],
                        [["x", 2, "y", ("said", 0)], second], [("x", 2, "y", ("asked", 0, [])), second],
                        [("x", 2, "y", ("case", 0)), second], [("x", 2, "y", ("said",)), second],
                        [("x", 2, "y", "said"), second], [("x", 2, "y", ()), second], [(X, 2, Y, ("said", 0)), second]]:
            self.wrong(self.places, ("ring", entries))
        self.wrong(self.places, ("ring", tuple(self.ring[1])))
        self.wrong(self.places, ["ring", self.ring[1]])
        self.wrong(self.places, ("ring", self.ring[1], []))
        self.wrong(self.places, ("ring",))
        self.wrong([("place", ("x", 1), Y), self.places[1]], self.ring)
        self.wrong([("place", ("x", 1), Y), self.places[1]],
                   ("ring", [("x", 1, "y", ("said", 0)), ("y", -1, "x", ("said", 1))]))

    def test_sum_of_just_one(self):
        self.right([("place", ("x", 1), X)], ("ring", [("x", 1, "x", ("said", 0))]))
        self.wrong([("place", X, X)], ("ring", [("x", 0, "x", ("said", 0))]))

    def test_values(self):
        sayings = [("value", ("v", 4), ("a", ("x", 1), 3)), ("value", ("a", ("x", 1), 0), ("v", 0))]
        told = ("ring", [("v", 1, ("a", ("x", 1)), ("said", 0)), (("a", ("x", 1)), 0, "v", ("said", 1))])
        self.assertEqual(self.spoil(sayings, told), [])
        self.wrong(sayings, ("ring", [("v", 1, ("a", ("x", True)), ("said", 0)), (("a", ("x", 1)), 0, "v", ("said", 1))]))
        self.wrong(sayings, ("ring", [("v", 1, ("a", ("x", 1)), ("said", 0)), (("a", ("x", 2)), 0, "v", ("said", 1))]))

    def test_asked_words_are_not_said(self):
        sayings = [("same", "a", "a", X, X, 1)]
        self.wrong(sayings, ("ring", [(AX, 1, AX, ("said", 0))]))
        self.right(sayings, ("ring", [(AX, 1, AX, ("asked", 0, [X]))]))

    def test_empty_list(self):
        self.wrong([], ("ring", []))
        self.wrong([], ("ring", [("", 1, "", ("said", 0))]))
        self.wrong([], ("cases", X, Y, ("ring", []), ("ring", []), ("ring", [])))


class Asked(Judging):
    up = [("rising", "a", ZERO, ("", 9)), ("value", ("a", ("", 5), 1), ("a", ("", 2), 0))]
    ring = ("ring", [(("a", ("", 2)), 0, ("a", ("", 5)), ("asked", 0, [("", 2), ("", 5)])),
                     (("a", ("", 5)), 1, ("a", ("", 2)), ("said", 1))])

    def test_rising(self):
        self.assertEqual(self.spoil(self.up, self.ring), [])
        for i, j in [(5, 2), (2, 4), (1, 5), (2, 6)]:
            entry = (("a", ("", 2)), 0, ("a", ("", 5)), ("asked", 0, [("", i), ("", j)]))
            self.wrong(self.up, ("ring", [entry, self.ring[1][1]]))
        self.wrong([("rising", "a", ("", 3), ("", 9)), self.up[1]], self.ring)
        self.wrong([("rising", "a", ZERO, ("", 4)), self.up[1]], self.ring)
        self.wrong([("rising", "b", ZERO, ("", 9)), self.up[1]], self.ring)
        for ends in [(None, ("", 5)), (("", 2), None), (None, None), (("", 2), ("", 5))]:
            self.right([("rising", "a", *ends), self.up[1]], self.ring)
        for ends in [(None, X), (X, None), (None, ("", 4)), (("", 3), None)]:
            self.wrong([("rising", "a", *ends), self.up[1]], self.ring)

    def test_rising_wants_its_own_order(self):
        sayings = [("rising", "a", ("", 1), ("", 7)), ("value", ("a", ("", 5), 0), ("", 0)), ("value", ("", 1), ("a", ("", 2), 0))]
        down = (("a", ("", 5)), 0, ("a", ("", 2)), ("asked", 0, [("", 5), ("", 2)]))
        self.wrong([sayings[0], ("value", ("a", ("", 2), 1), ("a", ("", 5), 0))],
                   ("ring", [down, (("a", ("", 2)), 1, ("a", ("", 5)), ("said", 1))]))
        up = (("a", ("", 2)), 0, ("a", ("", 5)), ("asked", 0, [("", 2), ("", 5)]))
        told = ("ring", [("", 1, ("a", ("", 2)), ("said", 2)), up, (("a", ("", 5)), 0, "", ("said", 1))])
        self.assertEqual(self.spoil(sayings, told), [])

    def test_low_and_high(self):
        sayings = [("low", "a", None, None, ("b", X, 3)), ("high", "a", ("x", -2), ("x", 2), ("b", X, 2))]
        told = ("ring", [(("b", X), 3, AX, ("asked", 0, [X])), (AX, -2, ("b", X), ("asked", 1, [X]))])
        self.assertEqual(self.spoil(sayings, told), [])
        other = ("q", 7)
        self.wrong(sayings, ("ring", [(("b", X), 3, ("a", other), ("asked", 0, [other])),
                                      (("a", other), -2, ("b", X), ("asked", 1, [other]))]))
        near = ("x", -2)
        self.right(sayings, ("ring", [(("b", X), 3, ("a", near), ("asked", 0, [near])),
                                      (("a", near), -2, ("b", X), ("asked", 1, [near]))]))
        off = ("x", -3)
        self.wrong(sayings, ("ring", [(("b", X), 3, ("a", off), ("asked", 0, [off])),
                                      (("a", off), -2, ("b", X), ("asked", 1, [off]))]))
        plain = [("low", "a", None, None, ("", 5)), ("high", "a", None, None, ("v", 7)), ("value", ("v", 3), ("", 0))]
        self.right(plain, ("ring", [("", 5, AX, ("asked", 0, [X])), (AX, -7, "v", ("asked", 1, [X])),
                                    ("v", 3, "", ("said", 2))]))

    def test_any_terms_where_ends_are_open(self):
        sayings = [("low", "a", None, None, ("v", 1)), ("high", "a", None, None, ("v", 0))]
        for term in [ZERO, X, ("other", 10 ** 29), ("", -10 ** 70)]:
            self.right(sayings, ("ring", [("v", 1, ("a", term), ("asked", 0, [term])),
                                          (("a", term), 0, "v", ("asked", 1, [term]))]))
        for term in [None, "x", ("X", 0), ("x", True), ("a", X, 0), ["x", 0], ("abcdefg", 0)]:
            self.wrong(sayings, ("ring", [("v", 1, ("a", term), ("asked", 0, [term])),
                                          (("a", term), 0, "v", ("asked", 1, [term]))]))

    def test_below(self):
        sayings = [("below", "a", ZERO, ("", 3), "b", ("", 2), None, 4), ("below", "b", ("", 5), ("", 9), "a", None, ("", 1), -3)]
        told = ("ring", [(("a", ("", 1)), 4, ("b", ("", 6)), ("asked", 0, [("", 1), ("", 6)])),
                         (("b", ("", 6)), -3, ("a", ("", 1)), ("asked", 1, [("", 6), ("", 1)]))])
        self.assertEqual(self.spoil(sayings, told), [])
        for one, other in [(2, 6), (-1, 6), (1, 4), (1, 10)]:
            one, other = ("", one), ("", other)
            self.wrong(sayings, ("ring", [(("a", one), 4, ("b", other), ("asked", 0, [one, other])),
                                          (("b", other), -3, ("a", one), ("asked", 1, [other, one]))]))
        one, other = ZERO, ("", 9)
        self.right(sayings, ("ring", [(("a", one), 4, ("b", other), ("asked", 0, [one, other])),
                                      (("b", other), -3, ("a", one), ("asked", 1, [other, one]))]))

    def test_below_itself(self):
        sayings = [("below", "a", None, X, "a", X, None, 1)]
        self.right(sayings, ("ring", [(AX, 1, AX, ("asked", 0, [X, X]))]))
        self.wrong(sayings, ("ring", [(AX, 1, AX, ("asked", 0, [X]))]))
        self.wrong(sayings, ("ring", [(AY, 1, AY, ("asked", 0, [Y, Y]))]))
        self.wrong([("below", "a", None, X, "a", X, None, 0)], ("ring", [(AX, 0, AX, ("asked", 0, [X, X]))]))

    def test_same(self):
        sayings = [("same", "a", "b", ("x", -1), ("x", 1), 5), ("same", "a", "b", None, X, 3)]
        bx = ("b", X)
        told = ("ring", [(AX, 5, bx, ("asked", 0, [X])), (bx, -3, AX, ("asked", 1, [X]))])
        self.assertEqual(self.spoil(sayings, told), [])
        low = ("x", -1)
        self.right(sayings, ("ring", [(("a", low), 5, ("b", low), ("asked", 0, [low])),
                                      (("b", low), -3, ("a", low), ("asked", 1, [low]))]))
        for off in [("x", 1), ("x", -2), ("y", 0)]:
            self.wrong(sayings, ("ring", [(("a", off), 5, ("b", off), ("asked", 0, [off])),
                                          (("b", off), -3, ("a", off), ("asked", 1, [off]))]))

    def test_said_words_are_not_asked(self):
        sayings = [("value", ("a", X, 1), ("a", X, 0)), ("place", ("x", 1), X)]
        self.right(sayings, ("ring", [(AX, 1, AX, ("said", 0))]))
        for terms in [[], [X], [X, X], None]:
            self.wrong(sayings, ("ring", [(AX, 1, AX, ("asked", 0, terms))]))
            self.wrong(sayings, ("ring", [("x", 1, "x", ("asked", 1, terms))]))


class Cases(Judging):
    sayings = [("rising", "a", X, Y), ("place", X, Y), ("value", ("a", Y, 1), ("a", X, 0))]
    asked = ("ring", [(AX, 0, AY, ("asked", 0, [X, Y])), (AY, 1, AX, ("said", 2))])
    equal = ("ring", [(AX, 0, AY, ("equal", 0)), (AY, 1, AX, ("said", 2))])
    greater = ("ring", [("y", 1, "x", ("case", 0)), ("x", 0, "y", ("said", 1))])

    def test_all_reasons(self):
        tree = ("cases", X, Y, self.asked, self.equal, self.greater)
        self.assertEqual(self.spoil(self.sayings, tree), [])
        self.assertEqual(self.spoil(self.sayings, ("cases", X, Y, self.asked, self.asked, self.greater)), [])

    def test_other_way_round(self):
        greater = ("ring", [("y", 1, "x", ("case", 0)), ("x", 0, "y", ("said", 1))])
        self.right(self.sayings, ("cases", Y, X, greater, self.equal, self.asked))
        self.wrong(self.sayings, ("cases", Y, X, self.asked, self.equal, self.greater))
        self.wrong(self.sayings, ("cases", Y, X, self.asked, self.equal, self.asked))
        self.right(self.sayings, ("cases", Y, X, greater, self.asked, self.asked))

    def test_order_must_be_known(self):
        self.wrong(self.sayings, self.asked)
        self.wrong(self.sayings, ("cases", X, Y, self.asked, self.asked, self.asked))
        self.wrong(self.sayings, ("cases", X, Y, self.equal, self.equal, self.greater))
        self.wrong(self.sayings, ("cases", X, Y, self.asked, self.equal, self.equal))
        self.wrong(self.sayings, ("cases", X, Z, self.asked, self.asked, self.asked))

    def test_only_a_case_of_just_these_two_is_known(self):
        sayings = [("rising", "a", X, Z), ("value", ("a", Z, 1), ("a", X, 0)), ("place", X, Y), ("place", Y, Z)]
        ring = ("ring", [(AX, 0, AZ, ("asked", 0, [X, Z])), (AZ, 1, AX, ("said", 1))])
        back = ("ring", [("z", 1, "x", ("case", 0)), ("x", 0, "y", ("said", 2)), ("y", 0, "z", ("said", 3))])
        self.right(sayings, ("cases", X, Z, ring, ring, back))
        inner = ("cases", Y, Z, ring, ring, ("ring", [("z", 1, "y", ("case", 1)), ("y", 0, "z", ("said", 3))]))
        self.wrong(sayings, ("cases", X, Y, inner, inner, ("ring", [("y", 1, "x", ("case", 0)), ("x", 0, "y", ("said", 2))])))
        self.wrong(sayings, ("cases", ("x", 1), ("z", 1), ring, ring, back))

    def test_one_name(self):
        sayings = [("rising", "a", ("x", -3), ("x", 3)), ("value", ("a", ("x", 2), 1), ("a", ("x", 2), 0))]
        value = ("ring", [(("a", ("x", 2)), 1, ("a", ("x", 2)), ("said", 1))])
        less = ("ring", [("x", 5, "x", ("case", 0))])
        equal = ("ring", [("x", 4, "x", ("case", 0))])
        self.right([sayings[0]] + [sayings[1]], ("cases", ("x", 6), ("x", 2), less, equal, value))
        self.wrong([sayings[0]] + [sayings[1]], ("cases", ("x", 6), ("x", 2), equal, equal, value))
        self.wrong([sayings[0]] + [sayings[1]], ("cases", ("x", 6), ("x", 2), less, less, value))
        self.wrong([sayings[0]] + [sayings[1]], ("cases", ("x", 6), ("x", 2), less, equal, equal))
        other = ("ring", [("x", 3, "x", ("case", 0))])
        self.right(sayings, ("cases", ("x", 2), ("x", 6), value, ("ring", [("x", 4, "x", ("case", 0))]),
                             ("ring", [("x", 5, "x", ("case", 0))])))
        self.wrong(sayings, ("cases", ("x", 2), ("x", 6), other, ("ring", [("x", 4, "x", ("case", 0))]),
                             ("ring", [("x", 5, "x", ("case", 0))])))

    def test_a_term_beside_itself(self):
        sayings = [("rising", "a", X, Y), ("value", ("", 1), ZERO)]
        told = ("ring", [("", 1, "", ("said", 1))])
        other = ("ring", [("x", 1, "x", ("case", 0))])
        self.right(sayings, ("cases", X, X, other, told, other))
        self.wrong(sayings, ("cases", X, X, other, other, other))

    def test_numbers_in_cases(self):
        one, other = ("x", 4), ("y", 1)
        sayings = [("place", ("x", 3), Y), ("place", Y, ("x", 2))]
        said = ("ring", [("x", 3, "y", ("said", 0)), ("y", -2, "x", ("said", 1))])
        less = ("ring", [("x", 4, "y", ("case", 0)), ("y", -2, "x", ("said", 1))])
        equal = ("ring", [("x", 3, "y", ("case", 0)), ("y", -2, "x", ("said", 1))])
        equal_too = ("ring", [("y", -3, "x", ("case", 0)), ("x", 4, "y", ("case", 0))])
        greater = ("ring", [("y", -2, "x", ("case", 0)), ("x", 3, "y", ("said", 0))])
        self.right(sayings, said)
        self.right(sayings, ("cases", one, other, said, said, said))
        self.right(sayings, ("cases", one, other, less, equal, greater))
        for branches in [(equal, equal, greater), (less, less, greater), (less, equal, less), (less, equal_too, greater),
                         (greater, equal, greater), (less, greater, greater)]:
            self.wrong(sayings, ("cases", one, other, *branches))
        self.assertEqual(self.spoil(sayings, ("cases", one, other, less, equal, greater)), [])

    def test_number_of_the_case(self):
        sayings = [("place", X, Y), ("place", Y, Z), ("place", ("z", 1), X)]
        base = ("ring", [("x", 0, "y", ("said", 0)), ("y", 0, "z", ("said", 1)), ("z", 1, "x", ("said", 2))])
        inner = ("ring", [("z", 1, "y", ("case", 1)), ("y", 0, "z", ("said", 1))])
        outer = ("ring", [("y", 1, "x", ("case", 0)), ("x", 0, "y", ("said", 0))])
        below = ("cases", Y, Z, base, base, inner)
        self.right(sayings, ("cases", X, Y, below, below, outer))
        self.right(sayings, ("cases", X, Y, below, below, ("cases", Y, Z, outer, outer, inner)))
        for number in [-1, 2, True, "1", None, [1]]:
            bad = ("ring", [("z", 1, "y", ("case", number)), ("y", 0, "z", ("said", 1))])
            self.wrong(sayings, ("cases", X, Y, below, ("cases", Y, Z, base, base, bad), outer))
        self.wrong(sayings, ("cases", Y, Z, base, base, inner))
        self.right(sayings, ("cases", Y, Z, base, base, ("ring", [("z", 1, "y", ("case", 0)), ("y", 0, "z", ("said", 1))])))

    def test_equals(self):
        sayings = [("value", ("a", X, 1), ("a", ("y", 3), 0)), ("place", X, ("y", 3)), ("place", ("y", 3), X)]
        there = ("a", ("y", 3))
        less = ("ring", [("x", -2, "y", ("case", 0)), ("y", 3, "x", ("said", 2))])
        more = ("ring", [("y", 4, "x", ("case", 0)), ("x", -3, "y", ("said", 1))])
        equal = ("ring", [(AX, 1, there, ("said", 0)), (there, 0, AX, ("equal", 0))])
        tree = ("cases", X, ("y", 3), less, equal, more)
        self.assertEqual(self.spoil(sayings, tree), [])
        self.right(sayings, ("cases", ("y", 3), X, more, equal, less))
        for entry in [(there, 1, AX, ("equal", 0)), (there, 0, AX, ("equal", 1)), (there, 0, AX, ("equal", -1)),
                      (there, 0, AX, ("equal", False)), (there, False, AX, ("equal", 0)), (there, 0, AX, ("case", 0)),
                      (there, 0, AX, ("equal", 0, [X])), (there, 0, AX, ("equal", 0, 0, 0)), (("b", ("y", 3)), 0, AX, ("equal", 0)),
                      (AY, 0, AX, ("equal", 0)), (there, 0, there, ("equal", 0)), (AX, 0, AX, ("equal", 0))]:
            self.wrong(sayings, ("cases", X, ("y", 3), less, ("ring", [equal[1][0], entry]), more))
        self.wrong(sayings, ("cases", X, ("y", 3), equal, equal, more))
        self.wrong(sayings, ("cases", X, ("y", 3), less, equal, equal))

    def test_equals_of_two_arrays(self):
        sayings = [("value", ("a", X, 1), ("b", Y, 0)), ("place", X, Y), ("place", Y, X)]
        less = ("ring", [("x", 1, "y", ("case", 0)), ("y", 0, "x", ("said", 2))])
        more = ("ring", [("y", 1, "x", ("case", 0)), ("x", 0, "y", ("said", 1))])
        equal = ("ring", [(AX, 1, ("b", Y), ("said", 0)), (("b", Y), 0, AX, ("equal", 0))])
        self.wrong(sayings, ("cases", X, Y, less, equal, more))
        self.assertTrue(possible(sayings))

    def test_shapes_of_cases(self):
        tree = ("cases", X, Y, self.asked, self.equal, self.greater)
        for told in [tree[:5], tree + (self.asked,), list(tree), ("case",) + tree[1:], ("ring",) + tree[1:],
                     ("cases", ["x", 0]) + tree[2:], ("cases", None) + tree[2:], ("cases", ("x", False)) + tree[2:],
                     ("cases", ("a", X, 0)) + tree[2:], tree[:3] + (list(self.asked), self.equal, self.greater),
                     tree[:3] + (None, self.equal, self.greater), tree[:4] + ((), self.greater)]:
            self.wrong(self.sayings, told)

    def test_ends_need_cases_of_their_own(self):
        sayings = [("low", "a", X, Y, ("", 1)), ("high", "a", Z, None, ZERO), ("place", X, Z), ("place", Z, Y)]
        self.assertFalse(possible(sayings))
        ring = ("ring", [("", 1, AZ, ("asked", 0, [Z])), (AZ, 0, "", ("asked", 1, [Z]))])
        zx = ("ring", [("z", 1, "x", ("case", 0)), ("x", 0, "z", ("said", 2))])
        yz = ("ring", [("y", 1, "z", ("case", 1)), ("z", 0, "y", ("said", 3))])
        inner = ("cases", Z, Y, ring, ring, yz)
        self.right(sayings, ("cases", X, Z, inner, inner, zx))
        self.wrong(sayings, ("cases", X, Z, ring, ring, zx))
        self.wrong(sayings, ring)


class Kinds(Judging):
    def test_places_and_values_do_not_mix(self):
        sayings = [("value", ("v", 0), ZERO), ("place", ZERO, X)]
        mixed = ("ring", [("", 1, "v", ("case", 0)), ("v", 0, "", ("said", 0))])
        self.assertTrue(possible(sayings))
        self.wrong(sayings, ("cases", ZERO, ("v", 0), mixed, mixed, mixed))
        good = ("ring", [("x", 1, "", ("case", 0)), ("", 0, "x", ("said", 1))])
        self.wrong(sayings, ("cases", X, ZERO, good, mixed, mixed))

    def test_places_through_the_empty_name_to_values(self):
        sayings = [("place", ("", 1), X), ("place", X, ("", 1)), ("value", ZERO, ("v", 0)), ("value", ("v", 0), ("", 0)),
                   ("place", ("", 1), ZERO)]
        loop = [("", 1, "x", ("said", 0)), ("x", -1, "", ("said", 1))]
        value = [("", 0, "v", ("said", 2)), ("v", 0, "", ("said", 3))]
        false = [("", 1, "", ("said", 4))]
        self.right(sayings, ("ring", false))
        self.right(sayings, ("ring", loop + false))
        self.wrong(sayings, ("ring", loop + value + false))
        self.right(sayings, ("ring", value + false))

    def test_cells_of_places(self):
        sayings = [("place", X, Y), ("value", ("a", Y, 1), ("a", X, 0))]
        self.wrong(sayings, ("ring", [(AX, 0, AY, ("said", 0)), (AY, 1, AX, ("said", 1))]))


class NoTrees(Judging):
    def test_any_values(self):
        sayings = Said.places
        for told in [None, True, False, 0, 1, "", "ring", "cases", (), [], ("ring",), ("ring", None), ("ring", ()),
                     ("ring", [None]), ("ring", [()]), ("ring", [[]]), ("ring", [("x", 1, "x", None)]), ("ring", ["abcd"]),
                     ("cases",), ("cases", X, Y), [("ring", [])], (("ring", []),), (("ring",), []), (["ring"], []),
                     ("ring", [("", 1, "", ("said", None))]), ("ring", [("", 1, "", (None, None))]), ("ring", "ring"),
                     ("ring", [("", 1, "", ([], []))]), ("ring", [([], 1, [], ("said", 0))]), ("ring", [(None, 1, None, ("said", 0))]),
                     ("ring", [((), 1, (), ("said", 0))]), ("ring", [(("a",), 1, ("a",), ("said", 0))]),
                     ("ring", [((["a"], X), 1, "", ("equal", 0))]), ("ring", [("x", 10 ** 61, "x", ("said", 10 ** 61))]),
                     ("ring", [("x", 1, "x", ("asked", 0, [[]]))]), ("ring", [("x", 1, "x", ("asked", 0, None))])]:
            self.wrong(sayings, told)

    def test_deep_values(self):
        for seed in [(), [], ("ring", []), None, "cases"]:
            told = seed
            for at in range(69):
                told = [[told], (told,), ("cases", X, Y, told, 0, 1), ("ring", [told]), ("ring", told)][at % 5]
            self.wrong(Said.places, told)
            for form in range(5):
                told = seed
                for at in range(69):
                    told = [[told], (told,), ("cases", X, Y, told, 0, 1), ("ring", [told]), ("ring", (told,))][form]
                self.wrong(Said.places, told)

    def test_deep_values_in_each_part(self):
        deep = []
        for at in range(60):
            deep = [deep] if at % 2 else (deep,)
        sayings = Cases.sayings
        tree = ("cases", X, Y, Cases.asked, Cases.equal, Cases.greater)
        for at in range(6):
            self.wrong(sayings, tree[:at] + (deep,) + tree[at + 1:])
        entry = Cases.asked[1][0]
        for at in range(4):
            bad = entry[:at] + (deep,) + entry[at + 1:]
            self.wrong(sayings, tree[:3] + (("ring", [bad, Cases.asked[1][1]]),) + tree[4:])
        for why in [("asked", deep, [X, Y]), ("asked", 0, deep), ("asked", 0, [X, deep]), (deep, 0, [X, Y]), ("said", deep)]:
            bad = entry[:3] + (why,)
            self.wrong(sayings, tree[:3] + (("ring", [bad, Cases.asked[1][1]]),) + tree[4:])


class RandomTrees(Judging):
    def test_mutants_of_trees(self):
        rng = random.Random(12)
        pools = [[X, Y, Z], [ZERO, X, ("y", 1)], [("x", 1), Y, ("", 2)]]
        trees = 0
        while trees < 40:
            terms = rng.choice(pools)
            sayings = [random_saying(rng, terms, size=1, words=WORDS) for _ in range(rng.randint(1, 4))]
            told = clash(sayings)
            if told is not None:
                trees += 1
                changed = mutants(told)
                for each in rng.sample(changed, min(300, len(changed))):
                    self.assertIs(judge_clash(sayings, each), plainly_shows(sayings, each), (sayings, each))

    def test_no_tree_for_lists_that_are_possible(self):
        rng = random.Random(13)
        seen = 0
        while seen < 300:
            sayings = [random_saying(rng, [X, Y, ZERO], size=1) for _ in range(4)]
            told = clash(sayings)
            if told is not None:
                for at in range(4):
                    part = sayings[:at] + [("place", ZERO, ZERO)] + sayings[at + 1:]
                    if possible(part):
                        seen += 1
                        self.assertIs(judge_clash(part, told), False)


if __name__ == "__main__":
    unittest.main()
