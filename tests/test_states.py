"""[2], [4], [5] and the section of states.py."""

import random
import unittest

from allcells.errors import InvalidName, InvalidRow, Unknown
from allcells.states import State
from oracle import all_new, cell, random_state

HUGE = 10 ** 30 - 1


class LeastForm(unittest.TestCase):
    def row(self, row):
        return State({}, {}, {"a": row}).arrays["a"]

    def test_one_tuple_stands_at_0(self):
        self.assertEqual(self.row([(7, 3)]), [(0, 3)])
        self.assertEqual(self.row([(-HUGE, HUGE)]), [(0, HUGE)])

    def test_all_of_one_value_stand_at_0(self):
        self.assertEqual(self.row([(7, 3), (-2, 3), (9, 3)]), [(0, 3)])

    def test_first_is_one_less_than_second(self):
        self.assertEqual(self.row([(-4, 2), (2, 5)]), [(1, 2), (2, 5)])
        self.assertEqual(self.row([(2, 5), (-4, 2), (0, 2), (3, 5)]), [(1, 2), (2, 5)])
        self.assertEqual(self.row([(-HUGE, 1), (HUGE, 2)]), [(HUGE - 1, 1), (HUGE, 2)])

    def test_any_order(self):
        self.assertEqual(self.row([(3, 1), (1, 2), (2, 1), (0, 1)]), [(0, 1), (1, 2), (2, 1)])

    def test_equal_cells_give_equal_rows(self):
        rng = random.Random(5)
        for _ in range(300):
            one = {at: rng.randint(0, 1) for at in rng.sample(range(6), rng.randint(1, 4))}
            other = {at: rng.randint(0, 1) for at in rng.sample(range(6), rng.randint(1, 4))}
            same = all(cell(list(one.items()), at) == cell(list(other.items()), at) for at in range(-2, 8))
            rows = [self.row(list(one.items())), self.row(list(other.items()))]
            self.assertEqual(rows[0] == rows[1], same)
            self.assertEqual([cell(rows[0], at) for at in range(-9, 9)],
                             [cell(list(one.items()), at) for at in range(-9, 9)])


class Terms(unittest.TestCase):
    def setUp(self):
        self.state = State({"n": 3, "x": -HUGE}, {"v": -7}, {"a": [(0, 2), (2, 5)], "abcdef": [(4, HUGE)]})

    def test_places(self):
        self.assertEqual(self.state.place_of(("n", 0)), 3)
        self.assertEqual(self.state.place_of(("n", -5)), -2)
        self.assertEqual(self.state.place_of(("", -5)), -5)
        self.assertEqual(self.state.place_of(("x", HUGE)), 0)
        self.assertEqual(self.state.place_of(term=("n", 1)), 4)

    def test_values(self):
        self.assertEqual(self.state.value_of(("v", 4)), -3)
        self.assertEqual(self.state.value_of(("", HUGE)), HUGE)
        self.assertEqual(self.state.value_of(term=("v", 0)), -7)

    def test_cells(self):
        for place, value in [(-HUGE, 2), (-1, 2), (0, 2), (1, 2), (2, 5), (3, 5), (HUGE, 5)]:
            self.assertEqual(self.state.value_of(("a", ("", place), 0)), value)
        self.assertEqual(self.state.value_of(("a", ("n", -1), 1)), 6)
        self.assertEqual(self.state.value_of(("a", ("n", -2), -1)), 1)
        self.assertEqual(self.state.value_of(("abcdef", ("n", 0), 1)), HUGE + 1)

    def test_unknown_place(self):
        for name in ["m", "v", "a", "nn"]:
            with self.assertRaises(Unknown) as caught:
                self.state.place_of((name, 0))
            self.assertEqual(caught.exception.value, name)

    def test_unknown_value(self):
        for term, name in [(("n", 0), "n"), (("a", 0), "a"), (("w", 3), "w")]:
            with self.assertRaises(Unknown) as caught:
                self.state.value_of(term)
            self.assertEqual(caught.exception.value, name)

    def test_unknown_array_ahead_of_place(self):
        for term, name in [(("b", ("m", 0), 0), "b"), (("a", ("m", 0), 0), "m"), (("b", ("n", 0), 0), "b"),
                           (("v", ("", 0), 0), "v")]:
            with self.assertRaises(Unknown) as caught:
                self.state.value_of(term)
            self.assertEqual(caught.exception.value, name)


class WithCell(unittest.TestCase):
    def test_all_other_cells_are_as_before(self):
        rng = random.Random(3)
        for _ in range(400):
            state = random_state(rng)
            place, value = rng.randint(-9, 9), rng.randint(-2, 2)
            before = state.arrays
            after = state.with_cell("a", place, value)
            for at in range(-14, 15):
                wanted = value if at == place else cell(before["a"], at)
                self.assertEqual(cell(after.arrays["a"], at), wanted)
            self.assertEqual(after.arrays["b"], before["b"])
            self.assertEqual([after.places, after.numbers], [state.places, state.numbers])
            self.assertEqual(state.arrays, before)

    def test_far_places(self):
        state = State({}, {}, {"a": [(0, 1), (1, 2)]})
        self.assertEqual(state.with_cell("a", -HUGE, 5).arrays["a"],
                         [(-HUGE - 1, 1), (-HUGE, 5), (1 - HUGE, 1), (1, 2)])
        self.assertEqual(state.with_cell("a", HUGE, -5).arrays["a"],
                         [(0, 1), (1, 2), (HUGE, -5), (HUGE + 1, 2)])
        self.assertEqual(state.with_cell("a", HUGE, 2), state)

    def test_by_name(self):
        state = State({}, {}, {"a": [(0, 1)]})
        self.assertEqual(state.with_cell(value=3, place=0, array="a").arrays["a"], [(-1, 1), (0, 3), (1, 1)])

    def test_unknown(self):
        state = State({"n": 1}, {"v": 1}, {"a": [(0, 1)]})
        for name in ["b", "n", "v", ""]:
            with self.assertRaises(Unknown) as caught:
                state.with_cell(name, 0, 0)
            self.assertEqual(caught.exception.value, name)
        self.assertEqual(state.arrays, {"a": [(0, 1)]})


class Making(unittest.TestCase):
    def wrong(self, kind, value, places, numbers, arrays):
        before = repr([places, numbers, arrays])
        with self.assertRaises(kind) as caught:
            State(places, numbers, arrays)
        self.assertIs(type(caught.exception), kind)
        self.assertEqual(caught.exception.value, value)
        self.assertEqual(repr([places, numbers, arrays]), before)
        return caught.exception

    def test_names(self):
        for name in ["", "A", "abcdefg", "a1", " ", "a b", "a.", "~", "aZ", "z" * 8000, "_", "{", "`"]:
            self.wrong(InvalidName, name, {name: 1}, {}, {})
            self.wrong(InvalidName, name, {}, {name: 1}, {})
            self.wrong(InvalidName, name, {}, {}, {name: [(0, 1)]})
        for name in ["a", "z", "abcdef", "zzzzzz"]:
            self.assertEqual(State({name: 1}, {}, {}).places, {name: 1})

    def test_order_of_errors(self):
        self.wrong(InvalidName, "B", {"C": 1, "B": 2, "a": 3}, {"A": 1}, {"": []})
        self.wrong(InvalidName, "A", {"a": 3}, {"x": 1, "A": 1}, {"": []})
        self.wrong(InvalidName, "", {"a": 3}, {"x": 1}, {"c": [], "": []})
        self.wrong(InvalidRow, [], {"a": 3}, {"x": 1}, {"c": [], "cA": [(0, 1)]})
        self.wrong(InvalidName, "B", {}, {}, {"c": [], "B": [(0, 1), (0, 2)]})
        self.wrong(InvalidRow, [(0, 2), (0, 2)], {}, {}, {"d": [], "c": [(0, 2), (0, 2)]})

    def test_rows(self):
        self.wrong(InvalidRow, [], {}, {}, {"a": []})
        self.wrong(InvalidRow, [(1, 2), (0, 3), (1, 4)], {}, {}, {"a": [(1, 2), (0, 3), (1, 4)]})

    def test_row_in_error_is_new(self):
        row = [(1, 2), (1, 3)]
        error = self.wrong(InvalidRow, [(1, 2), (1, 3)], {}, {}, {"a": row})
        row.append(5)
        self.assertEqual(error.value, [(1, 2), (1, 3)])
        self.assertTrue(all_new(error.value, row))

    def test_empty(self):
        state = State({}, {}, {})
        self.assertEqual([state.places, state.numbers, state.arrays, len(state)], [{}, {}, {}, 0])

    def test_by_name(self):
        state = State(arrays={"a": [(0, 1)]}, places={"p": 1}, numbers={"v": 2})
        self.assertEqual([state.places, state.numbers, state.arrays], [{"p": 1}, {"v": 2}, {"a": [(0, 1)]}])

    def test_length(self):
        self.assertEqual(len(State({"p": 1, "q": 1}, {"v": 1}, {"a": [(0, 1)], "b": [(0, 1)], "c": [(0, 1)]})), 6)

    def test_what_is_passed_is_not_kept_and_not_changed(self):
        row = [(2, 5), (1, 5), (0, 2)]
        dicts = [{"p": 1}, {"v": 2}, {"a": row}]
        state = State(*dicts)
        self.assertEqual(dicts, [{"p": 1}, {"v": 2}, {"a": [(2, 5), (1, 5), (0, 2)]}])
        row.append((9, 9))
        for each in dicts:
            each.clear()
        self.assertEqual([state.places, state.numbers, state.arrays], [{"p": 1}, {"v": 2}, {"a": [(0, 2), (1, 5)]}])

    def test_what_is_returned_is_new(self):
        state = State({"p": 1}, {"v": 2}, {"a": [(0, 2)], "b": [(0, 2)]})
        state.places["p"] = 4
        state.numbers.clear()
        arrays = state.arrays
        self.assertTrue(all_new(arrays, state.arrays))
        arrays["a"].append((3, 3))
        arrays["b"] = []
        self.assertEqual([state.places, state.numbers, state.arrays],
                         [{"p": 1}, {"v": 2}, {"a": [(0, 2)], "b": [(0, 2)]}])

    def test_methods_stand_in_the_class(self):
        for name in ["places", "numbers", "arrays", "place_of", "value_of", "with_cell", "__len__", "__eq__"]:
            self.assertIn(name, vars(State))

    def test_sixty_tuples(self):
        row = [(at * 10 ** 29, (at * 7) % 5) for at in range(60, 0, -1)]
        state = State({}, {}, {"a": row})
        self.assertEqual(len(state.arrays["a"]), 60)
        self.assertEqual(state.value_of(("a", ("", 30 * 10 ** 29 + 5), 0)), 0)


class Equality(unittest.TestCase):
    def test_equal(self):
        one = State({"p": 1}, {"v": 2}, {"a": [(0, 2), (1, 3)]})
        self.assertTrue(one == State({"p": 1}, {"v": 2}, {"a": [(1, 3), (-8, 2), (5, 3)]}))
        self.assertFalse(one != State({"p": 1}, {"v": 2}, {"a": [(1, 3), (-8, 2), (5, 3)]}))

    def test_different(self):
        one = State({"p": 1}, {"v": 2}, {"a": [(0, 2), (1, 3)]})
        others = [State({"p": 2}, {"v": 2}, {"a": [(0, 2), (1, 3)]}), State({"p": 1}, {"v": 3}, {"a": [(0, 2), (1, 3)]}),
                  State({"p": 1}, {"v": 2}, {"a": [(0, 2), (2, 3)]}), State({"p": 1}, {"v": 2}, {}),
                  State({"q": 1}, {"v": 2}, {"a": [(0, 2), (1, 3)]}), State({"p": 1}, {}, {"a": [(0, 2), (1, 3)]})]
        for other in others:
            self.assertTrue(one != other)
            self.assertFalse(one == other)

    def test_roles_differ(self):
        self.assertFalse(State({"p": 1}, {}, {}) == State({}, {"p": 1}, {}))

    def test_nothing_else(self):
        one = State({}, {}, {})
        for other in [None, 0, "", (), [], {}, ({}, {}, {}), [{}, {}, {}], False, State]:
            self.assertIs(one == other, False)
            self.assertIs(one != other, True)


if __name__ == "__main__":
    unittest.main()
