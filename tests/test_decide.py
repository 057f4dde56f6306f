"""[2], [7], [8], [9] and the section of decide.py, but for judge_clash: see test_judging.py."""

import itertools
import random
import unittest

from allcells.decide import clash, judge_clash, least_clashes, model, possible
from allcells.errors import InvalidName, InvalidSaying, InvalidTerm
from allcells.sayings import all_true, names_of, opposites
from allcells.states import State
from oracle import WORDS, all_new, plainly_possible, plainly_shows, random_saying

X, Y, Z, ZERO = ("x", 0), ("y", 0), ("z", 0), ("", 0)


class Deciding(unittest.TestCase):
    def decide(self, sayings):
        """What the functions say of a list, when they agree: True if it is possible."""
        before = repr(sayings)
        state, tree, answer = model(sayings), clash(sayings), possible(sayings)
        self.assertEqual(repr(sayings), before)
        self.assertIs(answer, state is not None)
        self.assertIs(answer, tree is None)
        if answer:
            self.assertIsInstance(state, State)
            self.assertEqual((sorted(state.places), sorted(state.numbers), sorted(state.arrays)), names_of(sayings))
            self.assertTrue(all_true(sayings, state), sayings)
        else:
            self.assertTrue(judge_clash(sayings, tree), sayings)
            self.assertTrue(plainly_shows(sayings, tree), sayings)
            self.assertTrue(all_new(tree, sayings))
        return answer

    def yes(self, *sayings):
        self.assertTrue(self.decide(list(sayings)), sayings)

    def no(self, *sayings):
        self.assertFalse(self.decide(list(sayings)), sayings)


class Possible(Deciding):
    def test_empty(self):
        self.yes()
        self.assertEqual(model([]), State({}, {}, {}))

    def test_places(self):
        self.yes(("place", X, Y), ("place", Y, X))
        self.yes(("place", X, ("x", 0)))
        self.no(("place", ("x", 1), X))
        self.no(("place", ("", 1), ZERO))
        self.no(("place", ("x", 1), Y), ("place", Y, X))
        self.no(("place", ("", 5), X), ("place", X, ("y", 3)), ("place", Y, ("", 1)))
        self.yes(("place", ("", 5), X), ("place", X, ("y", 3)), ("place", Y, ("", 2)))
        self.assertEqual(model([("place", ("", 7), X), ("place", X, ("", 7))]), State({"x": 7}, {}, {}))

    def test_values(self):
        self.no(("value", ("", 4), ("", 3)))
        self.yes(("value", ("", 4), ("", 4)))
        self.no(("value", ("v", 1), ("w", 0)), ("value", ("w", 0), ("v", 0)))
        self.no(("value", ("a", X, 1), ("a", X, 0)))
        self.yes(("value", ("a", X, 1), ("a", Y, 0)))
        self.no(("value", ("a", X, 1), ("a", Y, 0)), ("place", X, Y), ("place", Y, X))
        self.yes(("value", ("a", X, 1), ("b", X, 0)))
        self.assertEqual(model([("value", ("", -7), ("v", 0)), ("value", ("v", 0), ("", -7))]), State({}, {"v": -7}, {}))

    def test_rising(self):
        self.no(("rising", "a", X, Y), ("place", X, Y), ("value", ("a", Y, 1), ("a", X, 0)))
        self.yes(("rising", "a", X, Y), ("value", ("a", Y, 1), ("a", X, 0)))
        self.no(("rising", "a", None, None), ("place", X, Y), ("value", ("a", Y, 1), ("a", X, 0)))
        self.no(("rising", "a", None, Y), ("place", X, Y), ("value", ("a", Y, 1), ("a", X, 0)))
        self.yes(("rising", "a", None, X), ("place", X, Y), ("value", ("a", Y, 1), ("a", X, 0)))
        self.yes(("rising", "a", None, ("", -1)), ("rising", "a", ZERO, None), ("value", ("a", ZERO, 1), ("a", ("", -1), 0)))
        self.no(("rising", "a", ("", -9), ("x", 1)), ("rising", "a", ("x", 1), ("", 9)), ("place", ("", -3), X),
                ("place", X, ("", 3)), ("value", ("a", ("", 4), 1), ("a", ("", -3), 0)))

    def test_low_and_high(self):
        self.no(("low", "a", None, None, ("", 3)), ("value", ("a", X, 0), ("", 2)))
        self.no(("low", "a", None, None, ("", 3)), ("high", "a", None, None, ("", 2)))
        self.yes(("low", "a", X, Y, ("", 3)), ("high", "a", X, Y, ("", 2)))
        self.no(("low", "a", X, Y, ("", 3)), ("high", "a", X, Y, ("", 2)), ("place", X, Y))
        self.no(("low", "a", X, Z, ("v", 1)), ("high", "a", Y, ("z", 1), ("v", 0)), ("place", X, Z), ("place", Y, Z),
                ("place", X, Y))
        self.yes(("low", "a", X, Y, ("a", Z, 0)), ("high", "a", X, Y, ("a", Z, 0)))
        self.no(("low", "a", None, None, ("a", Z, 1)))
        self.no(("low", "a", None, X, ("a", X, 1)))
        self.yes(("low", "a", None, X, ("a", ("x", 1), 1)))

    def test_below(self):
        self.no(("below", "a", X, Y, "a", X, Y, 1), ("place", X, Y))
        self.yes(("below", "a", X, Y, "a", X, Y, 1))
        self.yes(("below", "a", X, Y, "a", X, Y, 0), ("place", X, Y))
        self.no(("below", "a", None, X, "a", X, None, 1))
        self.yes(("below", "a", None, X, "a", ("x", 1), None, 1))
        self.no(("below", "a", None, X, "a", ("x", 1), None, 1), ("value", ("a", ("y", 3), 0), ("a", Z, 0)),
                ("place", Z, X), ("place", X, ("y", 2)))
        self.no(("below", "a", None, None, "b", None, None, 1), ("below", "b", X, Y, "a", None, None, 0), ("place", X, Y))
        self.yes(("below", "a", None, None, "b", None, None, 1), ("below", "b", X, Y, "a", None, None, 0))

    def test_same(self):
        self.no(("same", "a", "a", None, None, 1))
        self.no(("same", "a", "a", X, X, -1))
        self.yes(("same", "a", "a", X, Y, 1))
        self.yes(("same", "a", "a", None, None, 0))
        self.no(("same", "a", "b", None, X, 1), ("same", "a", "b", X, None, 2))
        self.yes(("same", "a", "b", None, X, 1), ("same", "a", "b", ("x", 1), None, 2))
        self.no(("same", "a", "b", X, Y, 0), ("same", "b", "c", X, Y, 0), ("value", ("a", Z, 1), ("c", Z, 0)),
                ("place", X, Z), ("place", Z, Y))

    def test_whole_numbers(self):
        self.no(("place", ("x", 1), Y), ("place", ("y", 1), ("x", 2)), ("value", ("a", Y, 0), ("", 1)),
                ("value", ("", 2), ("a", ("x", 1), 0)))
        self.yes(("place", ("x", 1), Y), ("place", ("y", 1), ("x", 3)), ("value", ("a", Y, 0), ("", 1)),
                 ("value", ("", 2), ("a", ("x", 1), 0)))

    def test_equal_places_have_equal_cells(self):
        self.no(("place", X, Y), ("place", Y, X), ("value", ("a", X, 0), ("v", 0)), ("value", ("v", 1), ("a", Y, 0)))
        self.no(("place", X, Z), ("place", Z, ("x", 1)), ("value", ("", 1), ("a", Z, 0)), ("high", "a", X, ("x", 1), ZERO))

    def test_same_sentence_twice(self):
        self.yes(*[("rising", "a", X, Y)] * 2)
        self.no(*[("value", ("", 1), ZERO)] * 2)

    def test_a_chain_of_a_sorted_array(self):
        rising = ("rising", "a", ZERO, ("n", -1))
        here = [rising, ("place", ZERO, X), ("place", X, Y), ("place", Y, ("n", -1))]
        self.no(*here, ("value", ("a", Y, 1), ("a", X, 0)))
        for left in range(4):
            self.yes(*here[:left], *here[left + 1:], ("value", ("a", Y, 1), ("a", X, 0)))

    def test_large_numbers(self):
        self.no(("value", ("v", 1000), ("", -1000)), ("value", ("", 1000), ("v", -1000)))
        self.yes(("value", ("v", 1000), ("", -1000)), ("value", ("", -3000), ("v", -1000)))
        self.no(("place", ("x", 1000), ("y", -1000)), ("place", ("y", -1000), ("x", 999)))
        self.yes(("rising", "a", ("x", -1000), ("x", 1000)), ("value", ("a", ("x", 1000), 1000), ("a", ("x", 1001), -1000)))

    def test_beside_all_orders(self):
        rng = random.Random(9)
        pools = [[X, Y, Z], [ZERO, X, ("y", 1), ("x", 2)], [("x", -1), ("x", 1), ("", 2), ("", -2)], [X, ("y", -2), ZERO]]
        picks = [WORDS, ("below", "same", "value"), ("rising", "place", "value"), ("low", "high", "same", "place")]
        counts = {True: 0, False: 0}
        for _ in range(700):
            terms, words = rng.choice(pools), rng.choice(picks)
            sayings = [random_saying(rng, terms, words=words) for _ in range(rng.randint(1, 6))]
            wanted = plainly_possible(sayings)
            counts[wanted] += 1
            self.assertIs(self.decide(sayings), wanted, sayings)
        self.assertGreater(min(counts.values()), 100)

    def test_statement_and_its_opposites(self):
        rng = random.Random(10)
        for _ in range(200):
            saying = random_saying(rng, [X, Y, ZERO, ("x", 1)])
            lists = opposites(saying, ("i", "j"))
            for each in lists:
                self.no(saying, *each)
            self.assertTrue(possible([saying]) or any(possible(each) for each in lists))

    def test_by_name(self):
        sayings = [("value", ("", 1), ZERO)]
        self.assertIs(possible(sayings=sayings), False)
        self.assertIsNone(model(sayings=sayings))
        self.assertIs(judge_clash(told=clash(sayings=sayings), sayings=sayings), True)
        self.assertEqual(least_clashes(sayings=sayings), [[0]])

    def test_what_is_returned_may_be_changed(self):
        sayings = [("rising", "a", X, Y), ("place", X, Y), ("value", ("a", Y, 1), ("a", X, 0))]
        wanted = repr(clash(sayings))
        tree = clash(sayings)
        while tree[0] == "cases":
            tree = tree[3]
        tree[1].append(7)
        self.assertEqual(repr(clash(sayings)), wanted)
        first = model(sayings[:2])
        first.arrays["a"].append((7, 7))
        self.assertEqual(model(sayings[:2]), first)


class Errors(unittest.TestCase):
    def test_first_that_is_no_statement(self):
        good, false = ("place", X, Y), ("value", ("", 1), ZERO)
        inner = [1]
        cases = [([false, ("place", X, ("x", True)), ("place",)], InvalidTerm, ("x", True)),
                 ([false, ("place",), ("place", X, ("x", True))], InvalidSaying, ("place",)),
                 ([good, ("same", "a", "b", None, None, False)], InvalidSaying, ("same", "a", "b", None, None, False)),
                 ([good, ("rising", "", None, 4)], InvalidName, ""), ([good, None], InvalidSaying, None),
                 ([("low", "a", None, None, None)], InvalidTerm, None), ([inner], InvalidSaying, [1])]
        for sayings, kind, value in cases:
            for call in [possible, model, clash, least_clashes, lambda given: judge_clash(given, ("ring", []))]:
                with self.assertRaises(kind) as caught:
                    call(sayings)
                self.assertIs(type(caught.exception), kind)
                self.assertEqual(caught.exception.value, value)
                self.assertTrue(all_new(caught.exception.value, sayings))


class LeastClashes(unittest.TestCase):
    def plainly(self, sayings):
        found = []
        for size in range(1, len(sayings) + 1):
            for part in itertools.combinations(range(len(sayings)), size):
                if not any(set(each) <= set(part) for each in found):
                    if not plainly_possible([sayings[at] for at in part]):
                        found.append(list(part))
        return found

    def test_ordinary(self):
        false = ("value", ("", 1), ZERO)
        up, down = ("place", ("x", 1), Y), ("place", Y, X)
        self.assertEqual(least_clashes([]), [])
        self.assertEqual(least_clashes([up]), [])
        self.assertEqual(least_clashes([false]), [[0]])
        self.assertEqual(least_clashes([false, false]), [[0], [1]])
        self.assertEqual(least_clashes([up, down, false]), [[2], [0, 1]])
        self.assertEqual(least_clashes([up, up, down, down]), [[0, 2], [0, 3], [1, 2], [1, 3]])
        self.assertEqual(least_clashes([down, ("place", X, Z), ("place", ("z", 1), Y), up]), [[0, 3], [0, 1, 2]])

    def test_arrays(self):
        here = [("rising", "a", ZERO, ("n", -1)), ("place", ZERO, X), ("place", X, Y), ("place", Y, ("n", -1)),
                ("value", ("a", Y, 1), ("a", X, 0)), ("value", ("a", Y, 1), ("a", X, 0))]
        self.assertEqual(least_clashes(here), [[0, 1, 2, 3, 4], [0, 1, 2, 3, 5]])

    def test_beside_all_parts(self):
        rng = random.Random(11)
        sizes = {}
        for _ in range(150):
            sayings = [random_saying(rng, [X, Y, ("x", 1)], values="u", size=1) for _ in range(rng.randint(2, 5))]
            wanted = self.plainly(sayings)
            sizes[len(wanted)] = True
            self.assertEqual(least_clashes(sayings), wanted, sayings)
        self.assertGreater(len(sizes), 2)

    def test_new_lists(self):
        sayings = [("value", ("", 1), ZERO)] * 2
        first = least_clashes(sayings)
        self.assertTrue(all_new(first, sayings))
        first[0].append(3)
        self.assertEqual(least_clashes(sayings), [[0], [1]])


if __name__ == "__main__":
    unittest.main()
