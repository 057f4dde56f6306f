"""[2]: calls of seen, live, texts and readings up to the limits, and somewhat beyond them, end soon."""

import random
import unittest

from allcells.decide import possible
from allcells.errors import Contradiction, Needless, Unreadable
from allcells.follows import follows, thinned
from allcells.live import LeanSheet, Sheet
from allcells.readings import read_saying, read_state, read_term
from allcells.sayings import all_true
from allcells.seen import fitting, strictest_state, strongest
from allcells.states import State
from allcells.texts import show_saying, show_state, show_term
from oracle import WORDS, random_saying
from test_limits import Timed

HUGE = 10 ** 30 - 1
X, ZERO = ("x", 0), ("", 0)
HARD = [
    [("same", "a", "b", ("p", 0), None, 1), ("below", "a", ("q", 0), None, "a", ("q", 0), None, 0),
     ("high", "a", None, ("n", 0), ("", 2)), ("below", "a", ("r", 0), None, "a", None, ("p", 0), 0),
     ("below", "b", ("n", 0), ("n", 0), "b", ("r", 0), ("q", 0), 2), ("rising", "a", None, ("r", 0))],
    [("below", "a", ("p", 0), ("q", 0), "a", ("p", 0), ("r", 0), 0), ("low", "b", ("n", 0), ("r", 0), ("a", ("r", 0), -1)),
     ("below", "a", None, ("n", 0), "a", ("r", 0), None, 1), ("below", "b", ("p", 0), None, "a", None, ("q", 0), 1),
     ("below", "a", ("q", 0), ("n", 0), "a", ("q", 0), ("r", 0), 1), ("rising", "b", ("r", 0), None)],
]


def row(rng, size=HUGE):
    return [(place, rng.randint(-size, size)) for place in rng.sample(range(-90, 90), 60)]


class SeenStates(Timed):
    def test_forty_statements_and_twenty_states(self):
        rng = random.Random(100)
        terms = [("n", -HUGE), ("n", HUGE), ("x", 0), ("y", 7), ("", 10 ** 29), ("z", -3)]
        for words in (WORDS, ("below",), ("rising",), ("same",), ("low", "high")):
            states = [State({"n": 0, "x": -80, "y": 80, "z": 5}, {"u": HUGE, "v": -HUGE}, {"a": row(rng), "b": row(rng)})
                      for _ in range(20)]
            sayings = [random_saying(rng, terms, size=HUGE, words=words, open_ends=0.6) for _ in range(40)]
            truths = [[all_true([saying], state) for saying in sayings] for state in states]
            wanted = [index for index in range(40) if all(line[index] for line in truths)]
            self.assertEqual(self.soon(fitting, sayings, states), wanted)
            counts = [sum(line) for line in truths]
            self.assertEqual(self.soon(strictest_state, sayings, states), counts.index(min(counts)))

    def test_all_true_in_long_rows(self):
        states = [State({}, {}, {"a": [(2 * at, at) for at in range(60)], "b": [(2 * at + 1, 100 + (at + more) % 7) for at in range(60)]})
                  for more in range(20)]
        for saying in [("below", "a", None, None, "b", None, None, 0), ("rising", "a", None, None), ("same", "b", "b", None, None, 0)]:
            self.assertEqual(self.soon(fitting, [saying] * 40, states), list(range(40)))
            self.assertEqual(self.soon(strictest_state, [saying] * 40, states), 0)

    def test_strongest(self):
        rng = random.Random(101)
        for sayings in HARD:
            self.soon(strongest, sayings, [])
        for size in (1, 1000):
            for _ in range(40):
                terms = [(name, rng.randint(-size, size)) for name in rng.choice(["nxy", "xy"])] + [ZERO]
                sayings = [random_saying(rng, terms, size=size, open_ends=0.5) for _ in range(6)]
                states = [State({"n": 3, "x": 5, "y": 9}, {"u": HUGE, "v": 0}, {"a": row(rng, 9), "b": row(rng)}) for _ in range(rng.randint(0, 20))]
                fit = [sayings[index] for index in fitting(sayings, states)]
                self.assertEqual(self.soon(strongest, sayings, states), thinned(fit))


class LiveSheets(Timed):
    def test_hard_statements(self):
        for sayings in HARD:
            for kind in (Sheet, LeanSheet):
                sheet = kind()
                for saying in sayings[:5]:
                    try:
                        self.soon(sheet, saying)
                    except (Contradiction, Needless):
                        pass
                answer = self.soon(sheet.follows, sayings[5])
                self.assertIs(answer, follows(sheet.sayings, sayings[5]))
                self.assertTrue(all_true(sheet.sayings, self.soon(sheet.model)))

    def test_five_statements_and_a_hundred_taken_back(self):
        rng = random.Random(102)
        for kind in (Sheet, LeanSheet):
            for size in (1, 1000):
                terms = [(name, rng.randint(-size, size)) for name in "nxy"] + [ZERO]
                sheet, undone, refused = kind(), 0, 0
                while undone < 100:
                    saying = random_saying(rng, terms, size=size, open_ends=0.4)
                    try:
                        self.soon(sheet, saying)
                    except (Contradiction, Needless):
                        refused += 1
                    if len(sheet) == 5:
                        self.assertTrue(all_true(sheet.sayings, self.soon(sheet.model)))
                        for _ in range(rng.randint(1, 5)):
                            sheet.undo()
                            undone += 1
                self.assertGreater(refused, 0)
                self.assertTrue(possible(sheet.sayings))

    def test_somewhat_beyond(self):
        for kind in (Sheet, LeanSheet):
            sheet = kind()
            sayings = [("place", (one, 0), (other, -1)) for one, other in zip("abcdef", "bcdefg")]
            self.assertEqual(self.soon(sheet.add_all, sayings), 6)
            with self.assertRaises(Contradiction) as caught:
                self.soon(sheet, ("place", ("g", 0), ("a", 0)))
            self.assertEqual(caught.exception.value, [0, 1, 2, 3, 4, 5, 6])
            self.assertTrue(self.soon(sheet.follows, ("place", ("a", 6), ("g", 0))))


class LongTexts(Timed):
    def test_numbers_of_sixty_digits(self):
        most = 10 ** 60 - 1
        for term in [("x", most), ("x", -most), ("", most), ("", -most), ("a", ("x", -most), most), ("a", ("", most), -most)]:
            self.assertEqual(self.soon(read_term, self.soon(show_term, term)), term)
            saying = ("low", "a", None, ("y", -most), term)
            self.assertEqual(self.soon(read_saying, self.soon(show_saying, saying)), saying)
        state = State({"x": -most}, {"v": most}, {"a": [(-most, 1), (most, -most)]})
        self.assertTrue(self.soon(read_state, self.soon(show_state, state)) == state)

    def test_states_up_to_and_beyond_the_limits(self):
        rng = random.Random(103)
        for size, many in [(9, 60), (HUGE, 60), (HUGE, 300), (9, 3000)]:
            rows = {array: [(place, rng.randint(-size, size)) for place in rng.sample(range(-5000, 5000), many)] for array in "ab"}
            state = State({"x": size, "y": -size}, {"v": size}, rows)
            text = self.soon(show_state, state)
            self.assertTrue(self.soon(read_state, text) == state)
            with self.assertRaises(Unreadable):
                self.soon(read_state, text + "," + text)

    def test_texts_of_eight_thousand_characters(self):
        rng = random.Random(104)
        alphabets = ["x", "1", "-", "[", "]", " ", ";", "; ", ",", ":", "=", "a[", "x+1", "place ", "array a=", "0:1,", "abz09+-[].,;:= "]
        for letters in alphabets:
            repeated = (letters * 8000)[:8000]
            mixed = "".join(rng.choice(letters) for _ in range(8000))
            for read in (read_term, read_saying, read_state):
                for text in (repeated, mixed, "place x=1; " + repeated, "low a 0 1 " + repeated, "a[" + repeated, "array a=" + mixed):
                    with self.assertRaises(Unreadable) as caught:
                        self.soon(read, text)
                    self.assertEqual(caught.exception.value, text)


if __name__ == "__main__":
    unittest.main()
