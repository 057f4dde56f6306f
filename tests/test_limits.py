"""[2]: calls up to the limits, and somewhat beyond them, end soon and raise no error."""

import random
import time
import unittest

from allcells.decide import clash, judge_clash, least_clashes, model, possible
from allcells.sayings import (
    all_true, checked, first_false, is_true, names_of, opposites, settled, terms_of, where_false,
)
from allcells.states import State
from oracle import WORDS, plainly_shows, random_saying

HUGE = 10 ** 30 - 1
SECONDS = 20
X, Y, ZERO = ("x", 0), ("y", 0), ("", 0)
HARD = [
    [("high", "a", ("t", 0), ("s", 0), ("a", ("s", 0), -1)), ("value", ("b", ("q", 0), 0), ("a", ("q", 0), -1)),
     ("same", "a", "a", ZERO, ("r", 0), -1), ("value", ("b", ("r", 0), 1), ("a", ("t", 0), -1)),
     ("same", "a", "a", ("q", 0), ("t", 0), 1), ("below", "b", ("r", 0), ("q", 0), "b", ("r", 0), ZERO, 1)],
    [("below", "a", ("r", 0), ("s", 0), "a", ("r", 0), ZERO, 2), ("rising", "a", ("t", 0), ("s", 0)),
     ("below", "b", ("s", 0), ("q", 0), "b", ("t", 0), None, 2), ("high", "a", ("s", 0), ("r", 0), ("a", ("q", 0), -1)),
     ("place", ("t", 0), ("q", 0)), ("same", "a", "a", ZERO, ("r", 0), -1)],
    [("below", "b", ZERO, ZERO, "b", ("q", 0), ("t", 0), 1), ("rising", "a", ZERO, ("t", 0)),
     ("below", "a", ("t", 0), ("s", 0), "a", ("r", 0), ("q", 0), 0), ("same", "a", "a", ZERO, ("r", 0), -1),
     ("below", "a", ("q", 0), None, "a", ("r", 0), ZERO, 1), ("below", "a", ("s", 0), None, "a", ("r", 0), ("q", 0), 1)],
    [("low", "a", None, ("t", 0), ("a", ("q", 0), 1)), ("below", "a", None, ("s", 0), "a", ("r", 0), None, 0),
     ("low", "b", ("p", 0), ("s", 0), ("b", ("s", 0), 1)), ("rising", "a", ("s", 0), ("r", 0)),
     ("below", "a", ("p", 0), ("q", 0), "a", None, ("s", 0), 1), ("below", "a", ("r", 0), ("q", 0), "a", ("s", 0), None, 1)],
]


class Timed(unittest.TestCase):
    def soon(self, call, *given):
        start = time.monotonic()
        result = call(*given)
        self.assertLess(time.monotonic() - start, SECONDS, given)
        return result


class Deciding(Timed):
    def decide(self, sayings):
        state, tree = self.soon(model, sayings), self.soon(clash, sayings)
        self.assertIs(state is None, tree is not None)
        self.assertIs(self.soon(possible, sayings), tree is None)
        clashes = self.soon(least_clashes, sayings)
        if tree is None:
            self.assertEqual(clashes, [])
            self.assertTrue(all_true(sayings, state))
            self.assertEqual((sorted(state.places), sorted(state.numbers), sorted(state.arrays)), names_of(sayings))
        else:
            self.assertTrue(clashes)
            self.assertTrue(self.soon(judge_clash, sayings, tree))
            self.assertTrue(plainly_shows(sayings, tree))
        return tree is None

    def test_hard_lists(self):
        for sayings in HARD:
            self.decide(sayings)

    def test_six_entries_five_terms_two_arrays(self):
        rng = random.Random(20)
        picks = [WORDS, ("below", "same"), ("rising", "below", "value"), ("low", "high", "same", "place", "value")]
        answers = {True: 0, False: 0}
        for size in (1, 3, 1000):
            for _ in range(60):
                terms = [ZERO] + [(name, rng.choice([0, 0, rng.randint(-size, size)])) for name in "npqr"]
                words = rng.choice(picks)
                sayings = [random_saying(rng, terms, size=size, words=words, open_ends=0.25) for _ in range(6)]
                answers[self.decide(sayings)] += 1
        self.assertGreater(min(answers.values()), 30)

    def test_all_words_with_open_ends(self):
        terms = [(name, 1000) for name in "pqrs"] + [("", -1000)]
        for p, q in [(None, None), (None, terms[0]), (terms[0], None), (terms[0], terms[1])]:
            sayings = [("rising", "a", p, q), ("low", "a", p, q, ("b", terms[2], 1000)), ("high", "b", p, q, ("v", -1000)),
                       ("below", "a", p, q, "b", q, p, 1000), ("same", "a", "b", p, q, -1000),
                       ("value", ("a", terms[3], 1000), ("b", terms[4], -1000))]
            self.decide(sayings)

    def test_somewhat_beyond(self):
        rng = random.Random(21)
        for _ in range(12):
            terms = [(name, 0) for name in "mnopqrs"]
            self.decide([random_saying(rng, terms, arrays="abc", size=10 ** 40) for _ in range(7)])
        self.decide([("place", (name, HUGE), (name, HUGE - at)) for at, name in enumerate("abcdef")])

    def test_chains_of_places(self):
        names = "pqrst"
        chain = [("place", (one, 1), (other, 0)) for one, other in zip(names, names[1:])]
        rising = ("rising", "a", ("p", 0), ("t", 0))
        self.assertTrue(self.decide([rising, *chain, ("value", ("a", ("s", 0), 0), ("a", ("q", 0), 0))]))
        self.assertFalse(self.decide([rising, *chain, ("value", ("a", ("s", 0), 1), ("a", ("q", 0), 0))]))


class Trees(Timed):
    sayings = [("low", "a", X, None, ("v", 1)), ("high", "a", None, Y, ("v", 0)), ("place", X, Y),
               ("rising", "a", None, None)]

    def ring(self):
        """A ring of 60 entries that needs the first case."""
        part = [("v", 1, ("a", X), ("asked", 0, [X])), (("a", X), 0, ("a", Y), ("asked", 3, [X, Y])),
                (("a", Y), 0, "v", ("asked", 1, [Y]))]
        return ("ring", part * 20)

    def bush(self, nodes):
        """A tree with nearly so many nodes."""
        if nodes < 4:
            return self.ring()
        return ("cases", ("q", nodes), ("", 5), *[self.bush((nodes - 1) // 3) for _ in range(3)])

    def chain(self, length, end):
        """A tree with this end below so many cases."""
        for at in range(length):
            end = ("cases", ("q", -at), ("p", at), *([self.ring(), end, self.ring()] if at % 2 else [end] + [self.ring()] * 2))
        return end

    def whole(self, tree):
        """A tree whose first case is the one that rings need."""
        back = ("ring", [("y", 1, "x", ("case", 0)), ("x", 0, "y", ("said", 2))])
        return ("cases", X, Y, tree, self.ring(), back)

    def count(self, tree):
        return 1 + sum(self.count(branch) for branch in tree[3:]) if tree[0] == "cases" else 1

    def test_four_thousand_nodes_forty_deep(self):
        told = self.whole(self.chain(31, self.bush(4000)))
        self.assertTrue(3300 < self.count(told) <= 4000)
        self.assertIs(self.soon(judge_clash, self.sayings, told), True)
        self.assertIs(self.soon(judge_clash, self.sayings, told[3]), False)

    def test_spoilt_at_the_end(self):
        spoilt = ("ring", self.ring()[1][:-1])
        self.assertIs(self.soon(judge_clash, self.sayings, self.whole(self.chain(38, self.ring()))), True)
        self.assertIs(self.soon(judge_clash, self.sayings, self.whole(self.chain(38, spoilt))), False)

    def test_somewhat_beyond(self):
        told = ("ring", self.ring()[1] * 5)
        self.assertIs(self.soon(judge_clash, self.sayings, self.whole(self.chain(90, told))), True)

    def test_numbers_of_any_size(self):
        far = 10 ** 61
        sayings = [("place", ("x", HUGE), Y), ("place", Y, ("x", HUGE - 1))]
        told = ("ring", [("x", HUGE, "y", ("said", 0)), ("y", 1 - HUGE, "x", ("said", 1))] * 30)
        self.assertIs(judge_clash(sayings, told), True)
        told = ("cases", ("p", far), ("q", -far), told, told, ("ring", [("q", far, "p", ("case", 0))]))
        self.assertIs(judge_clash(sayings, told), False)
        self.assertIs(judge_clash(sayings, told[:5] + (told[3],)), True)


class Sayings(Timed):
    def rows(self, rng):
        return [(at * 10 ** 28 - 5 * 10 ** 29, rng.randint(-HUGE, HUGE)) for at in rng.sample(range(60), 60)]

    def test_forty_entries_and_rows_of_sixty(self):
        rng = random.Random(22)
        terms = [("n", -HUGE), ("n", HUGE), ("x", 0), ("y", 7), ("", 10 ** 29), ("z", -3)]
        state = State({"n": 0, "x": -HUGE, "y": HUGE, "z": 5}, {"u": HUGE, "v": -HUGE},
                      {"a": self.rows(rng), "b": self.rows(rng)})
        for words in [WORDS, ("below",), ("rising",), ("same",)]:
            sayings = [random_saying(rng, terms, size=HUGE, words=words, open_ends=0.4) for _ in range(40)]
            self.assertEqual([checked(each) for each in sayings], sayings)
            index = self.soon(first_false, sayings, state)
            truths = [self.soon(is_true, each, state) for each in sayings]
            self.assertEqual(index, truths.index(False) if False in truths else None)
            self.assertIs(self.soon(all_true, sayings, state), index is None)
            self.assertLessEqual(set(self.soon(terms_of, sayings)), set(terms) | {("", 0)})
            self.soon(settled, sayings, state)
            for each, truth in zip(sayings, truths):
                self.soon(opposites, each, ("i", "j"))
                if each[0] not in ("place", "value"):
                    self.assertIs(not self.soon(where_false, each, state), truth)

    def test_beyond(self):
        state = State({}, {}, {"a": [(at, at) for at in range(200)]})
        self.assertTrue(self.soon(all_true, [("rising", "a", None, None)] * 60, state))
        self.assertEqual(len(self.soon(where_false, ("below", "a", None, None, "a", None, None, 0), state)), 199 * 200 // 2)


if __name__ == "__main__":
    unittest.main()
