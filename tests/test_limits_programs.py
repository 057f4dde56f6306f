"""[2]: calls of follows, bounds, programs and gaps up to the limits, and somewhat beyond them, end soon."""

import random
import unittest

from allcells.bounds import place_bounds, state_with, value_bounds
from allcells.errors import TooLong
from allcells.follows import alike, counter, first_different, first_new, follows, judge_why, needless, thinned, why_follows
from allcells.gaps import duties, ends, first_gap, holds, judge_gap, largest_kept
from allcells.programs import Program, run
from allcells.sayings import all_true, is_true
from allcells.states import State
from oracle import WORDS, cell, random_saying
from plain_programs import random_conditions, random_steps, random_term
from test_limits import Timed

HUGE = 10 ** 30 - 1
X, Y, ZERO = ("x", 0), ("y", 0), ("", 0)
N, P, Q, R = ("n", 0), ("p", 0), ("q", 0), ("r", 0)
HARD = [
    ([("same", "a", "b", P, None, 1), ("below", "a", Q, None, "a", Q, None, 0), ("high", "a", None, N, ("", 2)),
      ("below", "a", R, None, "a", None, P, 0), ("below", "a", N, N, "b", R, Q, 2), ("rising", "a", None, R)],
     ("below", "a", None, None, "b", P, None, 1)),
    ([("rising", "a", R, None), ("below", "a", N, Q, "b", None, N, 0), ("below", "a", None, Q, "b", Q, None, 2),
      ("below", "b", R, P, "a", Q, N, 2), ("below", "b", R, None, "a", None, R, 0), ("below", "a", None, P, "a", R, P, 0)],
     ("same", "a", "b", None, None, -1)),
    ([("below", "a", P, Q, "a", P, R, 0), ("low", "b", N, R, ("a", R, -1)), ("below", "a", None, N, "a", R, None, 1),
      ("below", "b", P, None, "a", None, Q, 1), ("below", "a", Q, N, "a", Q, R, 1), ("rising", "b", R, None)],
     ("below", "a", None, None, "a", N, None, 0)),
]
HARD_LOOPS = [
    ([("below", "b", ("", 2), None, "b", ("x", 2), ("y", -1), 0), ("high", "a", None, None, ("", -1)), ("same", "a", "a", None, ("x", -1), 2)],
     [("value", ("v", 0), ("u", -1)), ("value", ("b", ("x", -1), 0), ("u", 0)), ("value", ("b", ("", 1), 2), ("a", ("x", 2), 0))],
     [("rising", "a", ("y", -2), ("", 2)), ("below", "a", None, None, "a", None, None, 0), ("below", "a", ("y", 2), ("x", 1), "a", ("y", 2), ("x", -2), 0)],
     [("exchange", "a", ("x", 2), ("", 2)), ("exchange", "a", ("", -1), ("y", 1)),
      ("if", [("value", ("v", 1), ("b", ("y", 1), -1)), ("value", ("a", ("x", -2), 2), ("u", -2)), ("value", ("", 1), ("b", ("", 1), 0))], [], []),
      ("exchange", "a", ("y", -1), X)],
     [("rising", "a", None, ("y", 1)), ("value", ("u", -1), ZERO), ("low", "a", None, None, ("a", ("", 2), 0))]),
    ([("high", "b", None, None, ("u", 0)), ("low", "a", ("", 2), ("y", -1), ("a", ("y", -1), 1)), ("below", "b", None, None, "b", None, None, 1)],
     [("value", ("v", 1), ("b", ("", -1), -1))],
     [("below", "b", ("y", -1), None, "b", None, None, 0), ("rising", "b", None, None), ("below", "b", None, None, "b", None, None, -1)],
     [("exchange", "b", ("x", 1), ("y", 1)), ("if", [("value", ("b", ("x", 2), 0), ("a", ("x", 1), 3))], [], []),
      ("exchange", "b", ("y", -1), ("x", -2)), ("exchange", "b", ZERO, X)],
     [("same", "b", "a", None, ("x", 1), -2), ("below", "b", ("y", 1), None, "a", None, None, 1), ("rising", "b", None, None)]),
]
HARD_STEPS = [
    ([("same", "a", "b", None, None, 5), ("high", "b", None, None, ("b", Y, 0)), ("below", "b", None, None, "b", None, None, 0)],
     [("if", [("value", ("a", ("y", -1), 0), ("b", X, -1)), ("value", ZERO, ("v", -3))], [], []), ("exchange", "a", ("x", 2), ("", 1)),
      ("exchange", "a", ("", -2), ("y", 2)), ("exchange", "a", ("", 2), ("y", -1)), ("exchange", "a", ("x", -2), ("x", 1))],
     [("rising", "a", None, None), ("below", "a", Y, ("", -2), "a", None, ("", -2), -1), ("below", "a", ("x", -2), None, "a", ("x", 1), None, -1)]),
    ([("same", "a", "b", None, None, 0)], [("exchange", "a", X, Y), ("exchange", "a", ("x", 1), ZERO), ("exchange", "b", Y, X),
                                           ("exchange", "b", ZERO, ("x", 1)), ("put", "a", X, ("b", X, 0))], [("same", "b", "a", None, None, 0)]),
]


class Following(Timed):
    def ask(self, sayings, saying):
        answer, state, trees = (self.soon(call, sayings, saying) for call in (follows, counter, why_follows))
        self.assertIs(answer, state is None)
        self.assertIs(answer, trees is not None)
        if answer:
            self.assertTrue(self.soon(judge_why, sayings, saying, trees))
        else:
            self.assertTrue(all_true(sayings, state) and not is_true(saying, state))
        return answer

    def compare(self, one, other):
        state = self.soon(first_different, one, other)
        self.assertIs(self.soon(alike, one, other), state is None)
        new = self.soon(first_new, one, other), self.soon(first_new, other, one)
        self.assertIs(state is None, new == (None, None))
        left = self.soon(thinned, one)
        self.assertTrue(self.soon(alike, one, left))
        self.assertEqual(self.soon(needless, left), [])

    def bound(self, sayings, u, v):
        found = self.soon(value_bounds, sayings, u, v)
        for number in found or ():
            if number is not None:
                state = self.soon(state_with, sayings, u, v, number)
                self.assertEqual(state.value_of(v) - state.value_of(u), number)
        for side, number in zip((-1, 1), found or ()):
            if number is not None:
                self.assertIsNone(self.soon(state_with, sayings, u, v, number + side))

    def test_hard_lists(self):
        for sayings, saying in HARD:
            self.ask(sayings, saying)
            self.compare(sayings, sayings[1:] + [saying])
            self.bound(sayings, ("a", N, 0), ("b", P, 0))
            self.bound(sayings, ("a", Q, 0), ("v", 0))
            self.soon(place_bounds, sayings, N, P)

    def test_six_entries_four_terms_two_arrays(self):
        rng = random.Random(70)
        picks = [WORDS, ("below", "same"), ("rising", "below", "value"), ("low", "high", "same", "place", "value")]
        answers = {True: 0, False: 0}
        for size in (1, 3, 1000):
            for _ in range(25):
                terms = [(name, rng.choice([0, 0, rng.randint(-size, size)])) for name in rng.choice(["npqr", ["n", "p", "q", ""]])]
                words = rng.choice(picks)
                sayings = [random_saying(rng, terms, size=size, words=words, open_ends=0.25) for _ in range(6)]
                other = [random_saying(rng, terms, size=size, words=words, open_ends=0.25) for _ in range(6)]
                answers[self.ask(sayings, other[0])] += 1
                self.compare(sayings, other)
                self.compare(sayings, sayings[1:] + sayings[:1])
                self.bound(sayings, ("a", terms[0], size), ("b", terms[1], -size))
                self.soon(place_bounds, sayings, terms[0], terms[1])
        self.assertGreater(min(answers.values()), 10)

    def test_all_words_with_open_ends(self):
        terms = [(name, 1000) for name in "pqr"] + [("", -1000)]
        for p, q in [(None, None), (None, terms[0]), (terms[0], None), (terms[0], terms[1])]:
            sayings = [("rising", "a", p, q), ("low", "a", p, q, ("b", terms[2], 1000)), ("high", "b", p, q, ("v", -1000)),
                       ("below", "a", p, q, "b", q, p, 1000), ("same", "a", "b", p, q, -1000),
                       ("value", ("a", terms[2], 1000), ("b", terms[3], -1000))]
            for saying in sayings:
                self.ask([each for each in sayings if each != saying], saying)
            self.compare(sayings, sayings[::-1])
            self.bound(sayings, ("a", terms[0], -1000), ("b", terms[3], 1000))
            self.soon(place_bounds, sayings, terms[0], terms[1])

    def test_chains_with_large_numbers(self):
        chain = [("value", ("u", 1000), ("a", P, -1000)), ("below", "a", P, P, "b", Q, Q, 1000), ("value", ("b", Q, 1000), ("v", -1000)),
                 ("below", "b", R, R, "a", P, P, 1000), ("value", ("v", 0), ("b", R, 0)), ("place", ("q", 1000), ("p", -1000))]
        self.assertIsNone(value_bounds(chain, ("u", 0), ("v", 0)))
        self.assertEqual(self.soon(value_bounds, chain[:3], ("u", -1000), ("v", 1000)), (7000, None))
        self.assertEqual(self.soon(place_bounds, chain[5:], ("p", 1000), ("q", -1000)), (None, -4000))

    def test_somewhat_beyond(self):
        rng = random.Random(71)
        for _ in range(6):
            terms = [(name, rng.randint(-HUGE, HUGE)) for name in "npqrs"]
            sayings = [random_saying(rng, terms, arrays="abc", size=HUGE) for _ in range(8)]
            self.ask(sayings[:-1], sayings[-1])
            self.compare(sayings[:4], sayings[4:])
            self.bound(sayings[:4], ("a", terms[0], HUGE), ("v", -HUGE))
            self.soon(place_bounds, sayings[:4], terms[0], terms[1])
        many = [("value", (one, 0), (other, 0)) for one, other in zip("abcdefghijkl", "mnopqrstuvwx")]
        self.assertTrue(self.ask(many, ("value", ("a", 0), ("m", 0))))
        self.assertFalse(self.ask(many + [("place", ("y", 0), ("z", 0))], ("rising", "aa", ("y", 0), ("z", 0))))


class Running(Timed):
    def rows(self, rng):
        return [(at, rng.randint(-HUGE, HUGE)) for at in rng.sample(range(-90, 90), 60)]

    def test_twelve_steps_and_rows_of_sixty(self):
        rng = random.Random(72)
        for _ in range(40):
            inner = ("if", random_conditions(rng), random_steps(rng, 3, 0, HUGE), random_steps(rng, 2, 0))
            body = [("set_place", "x", ("x", 1)), ("if", random_conditions(rng), [inner], random_steps(rng, 2, 0))]
            program = Program([("loop", [("place", X, Y)], [], body)])
            self.assertEqual(len(program), 11)
            state = State({"x": -40, "y": HUGE}, {"u": HUGE, "v": -HUGE}, {"a": self.rows(rng), "b": self.rows(rng)})
            try:
                self.soon(run, program, state, 400)
            except TooLong as found:
                self.assertEqual(found.value, 400)

    def test_four_hundred_steps(self):
        rng = random.Random(73)
        state = State({"x": -500}, {"v": 0}, {"a": self.rows(rng), "b": self.rows(rng)})
        body = [("put", "a", X, ("v", 0)), ("copy", "b", "a", ("x", -300), X), ("exchange", "b", X, ("x", -7)),
                ("set_value", "v", ("v", HUGE)), ("set_place", "x", ("x", 3))]
        program = Program([("loop", [("value", ("v", 0), ("", 65 * HUGE))], [], body)])
        after = self.soon(run, program, state, 1 + 66 * 6 + 1)
        self.assertEqual((after.places, after.numbers), ({"x": -302}, {"v": 66 * HUGE}))
        self.assertEqual([after.value_of(("a", ("", 3 * at - 500), 0)) for at in range(66)], [at * HUGE for at in range(66)])
        with self.assertRaises(TooLong):
            run(program, state, 66 * 6 + 1)
        self.assertEqual(cell(after.arrays["b"], 10 ** 6), cell(state.arrays["b"], 10 ** 6))

    def test_beyond(self):
        deep = []
        for at in range(30):
            deep = [("if", [("place", ZERO, X)], deep + [("set_place", "x", ("x", 1))], [])]
        program = Program(deep)
        self.assertEqual(len(program), 60)
        self.assertEqual(run(program, State({"x": 0}, {}, {}), 10 ** 9), State({"x": 30}, {}, {}))
        self.assertEqual(len(Program(deep * 20)), 1200)
        loop = Program([("loop", [("place", X, ("", 2000))], [], [("set_place", "x", ("x", 1))])])
        self.assertEqual(self.soon(run, loop, State({"x": 0}, {}, {"a": self.rows(random.Random(1)) * 1}), 10 ** 5).places, {"x": 2001})


class Gaps(Timed):
    def ask(self, ahead, steps, behind):
        program = Program(steps)
        found, gap = self.soon(duties, ahead, program, behind), self.soon(first_gap, ahead, program, behind)
        self.assertIs(self.soon(holds, ahead, program, behind), not found)
        self.assertEqual(gap and gap[:2], found[0] if found else None)
        if gap:
            self.assertTrue(self.soon(judge_gap, ahead, program, behind, gap))
        return found

    def test_hard_steps(self):
        for ahead, steps, behind in HARD_STEPS:
            self.assertEqual(self.soon(duties, ahead, Program(steps), behind), [])

    def test_hard_loops(self):
        found = []
        for ahead, conditions, kept, body, behind in HARD_LOOPS:
            steps = [("loop", conditions, kept, body)]
            found.append(self.soon(duties, ahead, Program(steps), behind))
            self.soon(largest_kept, kept, Program(steps), kept)
            self.assertFalse(self.soon(ends, Program(steps), ("x", -3), ("y", 3)))
        self.assertEqual(found, [[("end", 1)], [("end", 0), ("end", 1)]])

    def test_five_steps_three_statements(self):
        rng = random.Random(74)
        kinds = {}
        for _ in range(60):
            words = rng.choice([WORDS, ("below", "same"), ("rising", "low", "high", "below"), ("rising", "same")])
            lists = []
            for _ in range(3):
                terms = [random_term(rng) for _ in range(5)]
                lists.append([random_saying(rng, terms, size=HUGE, words=words, open_ends=rng.choice([0, 0.3, 1])) for _ in range(3)])
            ahead, kept, behind = lists
            before, after = rng.choice([(0, 0), (0, 0), (1, 0), (0, 1)])
            inner = random_steps(rng, 3 - before - after, 0)
            at = rng.randint(0, len(inner))
            test = ("if", random_conditions(rng, 2, 3), inner[at:], [])
            loop = ("loop", random_conditions(rng, 2, 3), kept, inner[:at] + [test])
            steps = random_steps(rng, before, 0) + [loop] + random_steps(rng, after, 0)
            self.assertEqual(len(Program(steps)), 5)
            kinds.update({word: True for word, _ in self.ask(ahead, steps, behind)})
            self.ask(kept, steps, kept)
            self.soon(largest_kept, kept, Program(steps), kept)
            self.soon(ends, Program(steps), random_term(rng, 3), random_term(rng, 3))
        self.assertEqual(len(kinds), 3)

    def test_five_steps_without_a_loop(self):
        rng = random.Random(75)
        for _ in range(60):
            words = rng.choice([WORDS, ("below", "same"), ("rising", "low", "high", "below")])
            terms = [random_term(rng) for _ in range(6)]
            ahead = [random_saying(rng, terms, size=2, words=words, open_ends=rng.choice([0, 0.3, 1])) for _ in range(3)]
            self.ask(ahead, random_steps(rng, 5), ahead)

    def test_huge_numbers(self):
        kept = [("low", "a", ZERO, ("x", -1), ("", -HUGE)), ("below", "a", None, None, "b", None, None, -HUGE)]
        body = [("put", "a", X, ("b", X, -HUGE)), ("put", "b", X, ("a", X, HUGE)), ("set_place", "x", ("x", 1))]
        steps = [("set_place", "x", ZERO), ("loop", [("value", ("", -HUGE), ("a", X, HUGE))], kept, body)]
        self.assertEqual(self.ask([], steps, [("value", ("", -HUGE), ("a", X, 0))])[:1], [("ahead", 1)])
        self.assertEqual(self.ask([kept[1]], [("put", "a", X, ("b", Y, 1 - HUGE))], [kept[1]]), [("end", 0)])
        self.assertEqual(self.ask([("same", "a", "b", None, None, HUGE)], [("exchange", "a", X, Y), ("exchange", "b", X, Y)],
                                  [("same", "b", "a", None, None, -HUGE)]), [])

    def test_somewhat_beyond(self):
        rng = random.Random(76)
        for _ in range(10):
            terms = [random_term(rng, 5, ("x", "y", "z", "")) for _ in range(6)]
            lists = [[random_saying(rng, terms, arrays="abc", size=2, open_ends=0.3) for _ in range(4)] for _ in range(3)]
            loop = ("loop", random_conditions(rng), lists[1], random_steps(rng, 4, 2))
            self.ask(lists[0], random_steps(rng, 2, 1) + [loop] + random_steps(rng, 1), lists[2])
            self.soon(largest_kept, lists[1], Program([loop]), lists[1])
            self.soon(ends, Program([loop]), ("x", 40), ("z", -40))

    def test_two_loops(self):
        up, kept = ("set_place", "x", ("x", 1)), [("place", ZERO, X)]
        loop = ("loop", [("place", ("x", 1), Y)], kept, [up])
        self.assertEqual(self.ask(kept, [loop, up, loop], [("place", Y, X)]), [])
        self.assertNotEqual(self.ask([], [loop, ("set_place", "x", ("x", -1)), loop], []), [])


if __name__ == "__main__":
    unittest.main()
