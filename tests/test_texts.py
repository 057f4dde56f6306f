"""The section of texts.py, [4] to [6]."""

import unittest

from allcells.states import State
from allcells.texts import show_saying, show_state, show_term

X, Y, ZERO = ("x", 0), ("y", 0), ("", 0)


class Terms(unittest.TestCase):
    def shown(self, term, text):
        self.assertEqual(show_term(term), text)
        self.assertIs(type(show_term(term)), str)

    def test_names(self):
        self.shown(("x", 0), "x")
        self.shown(("x", 1), "x+1")
        self.shown(("x", -1), "x-1")
        self.shown(("abcxyz", 120), "abcxyz+120")
        self.shown(("abcxyz", -120), "abcxyz-120")

    def test_numbers(self):
        self.shown(("", 0), "0")
        self.shown(("", 7), "7")
        self.shown(("", -7), "-7")

    def test_cells(self):
        self.shown(("a", ("x", 0), 0), "a[x]")
        self.shown(("a", ("x", 2), -3), "a[x+2]-3")
        self.shown(("a", ("n", -1), 2), "a[n-1]+2")
        self.shown(("a", ("", 0), 0), "a[0]")
        self.shown(("a", ("", -4), 1), "a[-4]+1")
        self.shown(("abcdef", ("", 12), 0), "abcdef[12]")
        self.shown(("a", ("x", 0), -1), "a[x]-1")

    def test_sizes(self):
        huge = 10 ** 30 - 1
        self.shown(("x", huge), "x+" + "9" * 30)
        self.shown(("a", ("", -huge), -huge), "a[-" + "9" * 30 + "]-" + "9" * 30)

    def test_by_name(self):
        self.assertEqual(show_term(term=("x", 4)), "x+4")


class Sayings(unittest.TestCase):
    def test_each_word(self):
        cell = ("b", ("x", 1), -2)
        for saying, text in [
            (("place", X, ("", -3)), "place x -3"),
            (("value", ("v", 2), cell), "value v+2 b[x+1]-2"),
            (("rising", "a", ("x", -1), ("y", 12)), "rising a x-1 y+12"),
            (("low", "a", ZERO, ("n", -1), ("v", 0)), "low a 0 n-1 v"),
            (("high", "a", X, Y, cell), "high a x y b[x+1]-2"),
            (("below", "a", X, Y, "b", ("x", 1), ("y", 1), 3), "below a x y b x+1 y+1 3"),
            (("same", "a", "b", X, Y, -4), "same a b x y -4"),
        ]:
            self.assertEqual(show_saying(saying), text)
            self.assertEqual(show_saying(saying=saying), text)

    def test_open_ends(self):
        self.assertEqual(show_saying(("rising", "a", None, X)), "rising a .. x")
        self.assertEqual(show_saying(("rising", "a", X, None)), "rising a x ..")
        self.assertEqual(show_saying(("low", "a", None, None, ZERO)), "low a .. .. 0")
        self.assertEqual(show_saying(("below", "a", None, X, "b", Y, None, 0)), "below a .. x b y .. 0")
        self.assertEqual(show_saying(("same", "a", "b", None, None, 0)), "same a b .. .. 0")

    def test_numbers_stand_as_they_are(self):
        self.assertEqual(show_saying(("same", "a", "b", X, X, 5)), "same a b x x 5")
        self.assertEqual(show_saying(("below", "a", X, X, "a", X, X, -5)), "below a x x a x x -5")
        self.assertEqual(show_saying(("place", ZERO, ("", 5))), "place 0 5")


class States(unittest.TestCase):
    def test_empty(self):
        self.assertEqual(show_state(State({}, {}, {})), "")

    def test_one_of_each(self):
        self.assertEqual(show_state(State({"n": 3}, {}, {})), "place n=3")
        self.assertEqual(show_state(State({}, {"v": -3}, {})), "value v=-3")
        self.assertEqual(show_state(State({}, {}, {"a": [(5, -2)]})), "array a=0:-2")
        self.assertEqual(show_state(State({"n": 0}, {"v": 4}, {"a": [(0, 1), (2, -5)]})),
                         "place n=0; value v=4; array a=1:1,2:-5")
        self.assertEqual(show_state(state=State({"n": 3}, {}, {})), "place n=3")

    def test_names_ascend_in_each_part(self):
        state = State({"y": 1, "x": 2, "xa": 3}, {"w": 4, "ab": 5}, {"c": [(0, 0)], "a": [(0, 1)], "b": [(0, 2)]})
        self.assertEqual(show_state(state), "place x=2; place xa=3; place y=1; value ab=5; value w=4; "
                                            "array a=0:1; array b=0:2; array c=0:0")

    def test_rows_in_least_form(self):
        state = State({}, {}, {"a": [(9, 4), (-6, 2), (-8, 2), (-3, 2), (7, 3), (8, 3), (12, 4)]})
        self.assertEqual(show_state(state), "array a=6:2,7:3,9:4")
        self.assertEqual(show_state(State({}, {}, {"a": [(-7, 0), (-3, 1)]})), "array a=-4:0,-3:1")

    def test_a_name_in_two_roles(self):
        self.assertEqual(show_state(State({"a": 1}, {"a": 2}, {"a": [(0, 3)]})), "place a=1; value a=2; array a=0:3")

    def test_equal_states_have_one_text(self):
        one = State({"x": 1, "y": 2}, {}, {"a": [(0, 1), (4, 2)]})
        other = State({"y": 2, "x": 1}, {}, {"a": [(4, 2), (5, 2), (-9, 1), (3, 1)]})
        self.assertTrue(one == other)
        self.assertEqual(show_state(one), show_state(other))
        for near in [State({"x": 1, "y": 3}, {}, one.arrays), State({"x": 1, "y": 2}, {}, {"a": [(0, 1), (5, 2)]}),
                     State({"x": 1}, {"y": 2}, one.arrays), State({"x": 1, "y": 2}, {}, {"b": [(0, 1), (4, 2)]})]:
            self.assertNotEqual(show_state(one), show_state(near))


if __name__ == "__main__":
    unittest.main()
