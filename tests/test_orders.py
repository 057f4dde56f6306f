"""Tables of differences, conditions of the order of places, and systems, beside all levels in a small range."""

import itertools
import random
import unittest

from allcells.orders import (
    condition_most, condition_other, is_met, known_of, levels_of, table_of, tightened, way_unmet, ways_met,
)
from allcells.systems import solved

BASES = ["", "x", "y"]
LEVELS = [dict(zip(BASES, each)) for each in itertools.product(range(-6, 7), repeat=3)]


def holds(entry, levels):
    return levels[entry[0]] + entry[1] <= levels[entry[2]]


def random_entry(rng, size=3):
    return (rng.choice(BASES), rng.randint(-size, size), rng.choice(BASES))


class Conditions(unittest.TestCase):
    conditions = [(word, one, k, other) for word in ("most", "other") for one in BASES for other in BASES for k in range(-2, 3)]

    def test_of_terms(self):
        levels = {"": 0, "x": 3, "y": 5}
        for one, other in itertools.product([("x", 0), ("x", 2), ("y", -2), ("y", 1), ("", 4)], repeat=2):
            first, second = levels[one[0]] + one[1], levels[other[0]] + other[1]
            self.assertIs(is_met(condition_most(one, other), levels), first <= second)
            self.assertIs(is_met(condition_other(one, other), levels), first != second)

    def test_ways(self):
        for condition in self.conditions:
            for levels in LEVELS[::7]:
                met = is_met(condition, levels)
                self.assertIs(any(all(holds(entry, levels) for entry in way) for way in ways_met(condition)), met)
                self.assertIs(all(holds(entry, levels) for entry in way_unmet(condition)), not met)

    def test_what_a_table_tells(self):
        rng = random.Random(80)
        found = {}
        for _ in range(80):
            entries = [random_entry(rng) for _ in range(rng.randint(0, 4))]
            table = table_of(BASES, entries)
            fitting = [levels for levels in LEVELS if all(holds(entry, levels) for entry in entries)]
            self.assertIs(table is None, not fitting)
            if table is None:
                continue
            self.assertTrue(all(holds(entry, levels_of(table)) for entry in entries))
            self.assertEqual(set(levels_of(table)), set(BASES))
            for condition in self.conditions:
                answers = {is_met(condition, levels) for levels in fitting}
                wanted = answers.pop() if len(answers) == 1 else None
                self.assertIs(known_of(condition, table), wanted, (entries, condition))
                found[(condition[0], wanted)] = True
            more = random_entry(rng)
            before = repr(table)
            self.assertEqual(tightened(table, [more]), table_of(BASES, entries + [more]))
            self.assertEqual(repr(table), before)
        self.assertEqual(len(found), 6)


class Systems(unittest.TestCase):
    def test_levels_or_a_ring(self):
        rng = random.Random(81)
        rings = {}
        for _ in range(600):
            bases = list("abcdefg")[: rng.randint(1, 7)]
            entries = [(rng.choice(bases), rng.randint(-4, 2), rng.choice(bases), at) for at in range(rng.randint(0, 14))]
            before = repr(entries)
            levels, ring = solved(bases, entries)
            self.assertEqual(repr(entries), before)
            if ring is None:
                self.assertEqual(set(levels), set(bases))
                self.assertTrue(all(holds(entry, levels) for entry in entries))
            else:
                self.assertIsNone(levels)
                self.assertTrue(all(entry in entries for entry in ring))
                self.assertTrue(all(one[2] == other[0] for one, other in zip(ring, ring[1:] + ring[:1])))
                self.assertGreater(sum(entry[1] for entry in ring), 0)
                self.assertEqual(len({entry[0] for entry in ring}), len(ring))
            rings[0 if ring is None else len(ring)] = True
        self.assertGreater(len(rings), 3)


if __name__ == "__main__":
    unittest.main()
