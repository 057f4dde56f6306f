"""[9] and the section of gaps.py."""

import random
import unittest

from allcells.errors import InvalidName, InvalidSaying, InvalidTerm
from allcells.gaps import duties, ends, first_gap, holds, judge_gap, largest_kept
from allcells.programs import Program, run
from allcells.sayings import all_true, is_true, names_of
from allcells.states import State
from oracle import WORDS, random_saying, random_state
from plain_programs import plain_duties, plainly_has_gap, random_conditions, random_steps, random_term
from refusing import Refusing

X, Y, N, ZERO = ("x", 0), ("y", 0), ("n", 0), ("", 0)
AX, AY = ("a", X, 0), ("a", Y, 0)
NEXT = ("set_place", "x", ("x", 1))
FALSE = ("value", ("", 1), ZERO)


def names_in(steps):
    """The names that stand in steps without a loop: of places, of values, of arrays."""
    found = (set(), set(), set())

    def term(part, kind):
        if len(part) == 3:
            found[2].add(part[0])
            term(part[1], 0)
        else:
            found[kind].add(part[0])

    for word, *parts in steps:
        if word in ("set_place", "set_value"):
            kind = ["set_place", "set_value"].index(word)
            found[kind].add(parts[0])
            term(parts[1], kind)
        elif word == "if":
            for names, more in zip(found, names_of(parts[0])):
                names.update(more)
            for names, more in zip(found, names_in(parts[1] + parts[2])):
                names.update(more)
        else:
            found[2].update(part for part in parts if isinstance(part, str))
            for at, part in enumerate(parts):
                if isinstance(part, tuple):
                    term(part, 1 if word == "put" and at == 2 else 0)
    return tuple(names - {""} for names in found)


def names_wanted(ahead, steps, behind, word, index):
    """The names that a state of a gap must have."""
    _, conditions, kept, body = next((step for step in steps if step[0] == "loop"), (None, [], [], []))
    at = next((at for at, step in enumerate(steps) if step[0] == "loop"), None)
    part, begun, wanted = {
        "ahead": (steps[:at], ahead, kept),
        "round": (body, kept + conditions, kept),
        "end": (steps, ahead, behind) if at is None else (steps[at + 1:], kept + conditions, behind),
    }[word]
    return [sorted(one | set(two)) for one, two in zip(names_in(part), names_of(begun + [wanted[index]]))]


class Asking(unittest.TestCase):
    def ask(self, ahead, steps, behind):
        """What duties says, when the other functions agree."""
        program = Program(steps)
        before = repr([ahead, steps, behind])
        found, gap = duties(ahead, program, behind), first_gap(ahead, program, behind)
        self.assertIs(holds(ahead, program, behind), not found)
        if not found:
            self.assertIsNone(gap)
        else:
            self.assertIsInstance(gap, tuple)
            self.assertEqual(gap[:2], found[0])
            self.assertTrue(judge_gap(ahead, program, behind, gap))
            state = gap[2]
            self.assertIsInstance(state, State)
            self.assertEqual([sorted(names) for names in (state.places, state.numbers, state.arrays)],
                             names_wanted(ahead, steps, behind, *gap[:2]))
            self.plainly_judge(ahead, steps, behind, gap)
        self.assertEqual(repr([ahead, program.steps, behind]), before)
        return found

    def plainly_judge(self, ahead, steps, behind, gap):
        word, index, state = gap
        _, starts, part, wanted = next(each for each in plain_duties(ahead, steps, behind) if each[0] == word)
        self.assertTrue(any(all_true(start, state) for start in starts))
        self.assertFalse(is_true(wanted[index], run(Program(part), state, 1000)))

    def done(self, ahead, steps, behind):
        self.assertEqual(self.ask(ahead, steps, behind), [], (ahead, steps, behind))

    def undone(self, ahead, steps, behind, *wanted):
        self.assertEqual(self.ask(ahead, steps, behind), list(wanted), (ahead, steps, behind))


class WithoutLoops(Asking):
    def test_no_steps(self):
        self.done([], [], [])
        self.done([("place", X, Y)], [], [("place", X, ("y", 1))])
        self.undone([], [], [("place", X, Y), ("place", X, X), FALSE], ("end", 0), ("end", 2))
        self.done([FALSE], [], [("place", X, Y), FALSE])
        self.done([], [NEXT], [])

    def test_places_and_values(self):
        self.done([("place", X, Y)], [NEXT], [("place", X, ("y", 1))])
        self.undone([("place", X, Y)], [NEXT], [("place", X, Y)], ("end", 0))
        self.done([], [("set_place", "x", ("y", 2)), ("set_place", "y", ("x", 1))], [("place", Y, ("x", 1)), ("place", ("x", 1), Y)])
        self.done([], [("set_value", "v", AX), ("set_place", "x", ("x", 5))], [("value", ("v", 0), ("a", ("x", -5), 0))])
        self.undone([], [("set_value", "v", AX), ("set_place", "x", ("x", 5))], [("value", ("v", 0), AX)], ("end", 0))
        self.done([], [("set_value", "v", ("a", X, 2)), ("put", "a", X, ("", 0)), ("set_value", "w", ("v", 1))],
                  [("value", ("v", 1), ("w", 0)), ("value", AX, ZERO)])

    def test_put(self):
        self.done([], [("put", "a", X, ("v", 3))], [("value", AX, ("v", 3)), ("value", ("v", 3), AX)])
        self.undone([], [("put", "a", X, ("v", 3))], [("value", AY, ("v", 3))], ("end", 0))
        self.done([("value", AY, ("v", 3))], [("put", "a", X, ("v", 3))], [("value", AY, ("v", 3))])
        self.done([("rising", "a", None, X)], [("put", "a", ("x", 1), AX)], [("rising", "a", None, ("x", 1))])
        self.undone([("rising", "a", None, X)], [("put", "a", ("x", 1), AX)], [("rising", "a", None, ("x", 2))], ("end", 0))
        self.done([("low", "a", ZERO, X, ("v", 0)), ("place", ZERO, X)], [("put", "a", ("x", 1), ("v", 0))],
                  [("low", "a", ZERO, ("x", 1), ("v", 0))])

    def test_put_takes_its_terms_as_they_are(self):
        self.done([], [("put", "a", X, ("a", X, 1)), ("put", "b", X, AX)], [("value", AX, ("b", X, 0))])
        twice = [("put", "a", X, ("a", Y, 1)), ("put", "a", Y, ("a", X, 1))]
        self.done([("place", Y, X), ("place", X, Y), ("value", AX, ("v", 0))], twice, [("value", AY, ("v", 2))])
        self.undone([("value", AX, ("v", 0))], twice, [("value", AY, ("v", 2))], ("end", 0))

    def test_exchange(self):
        up, down = [("value", AX, AY)], [("value", AY, AX)]
        self.done(up, [("exchange", "a", X, Y)], down)
        self.undone(up, [("exchange", "a", X, Y)], up, ("end", 0))
        self.done(up, [("exchange", "a", X, Y), ("exchange", "a", Y, X)], up)
        self.done([], [("exchange", "a", X, X)], [("same", "a", "a", None, None, 0)])
        self.done([("same", "a", "b", None, None, 0)], [("exchange", "a", X, Y), ("exchange", "b", Y, X)], [("same", "a", "b", None, None, 0)])
        self.undone([("same", "a", "b", None, None, 0)], [("exchange", "a", X, Y)], [("same", "a", "b", None, None, 0)], ("end", 0))
        self.done([("low", "a", None, None, ("v", 0))], [("exchange", "a", X, Y)], [("low", "a", None, None, ("v", 0))])

    def test_copy(self):
        self.done([], [("copy", "a", "b", X, Y)], [("same", "a", "b", X, Y, 0)])
        self.undone([], [("copy", "a", "b", X, Y)], [("same", "a", "b", X, ("y", 1), 0)], ("end", 0))
        self.done([("same", "a", "c", None, None, 0)], [("copy", "a", "b", X, Y)],
                  [("same", "a", "c", None, ("x", -1), 0), ("same", "a", "c", ("y", 1), None, 0)])
        self.done([("place", ("y", 1), X), ("same", "a", "c", None, None, 0)], [("copy", "a", "b", X, Y)], [("same", "a", "c", None, None, 0)])
        self.done([], [("copy", "a", "a", X, Y), ("copy", "b", "a", X, Y)], [("same", "a", "b", X, Y, 0)])
        self.done([("same", "a", "b", None, None, 1)], [("copy", "a", "a", X, Y)], [("same", "a", "b", None, None, 1)])

    def test_ends_of_a_copy(self):
        same = [("same", "a", "c", None, None, 0)]
        for p, q in [(X, ("x", 1)), (X, X), (X, Y)]:
            far = [("place", ("x", 5), Y)]
            for term in (p, q):
                self.undone(same + far, [("copy", "a", "b", p, q)], [("value", ("a", term, 0), ("c", term, 0))], ("end", 0))
                self.done(far, [("copy", "a", "b", p, q)], [("value", ("a", term, 0), ("b", term, 0))])
            for term in ((p[0], p[1] - 1), (q[0], q[1] + 1)):
                self.done(same + far, [("copy", "a", "b", p, q)], [("value", ("a", term, 0), ("c", term, 0))])
                self.undone(same + far, [("copy", "a", "b", p, q)], [("value", ("a", term, 0), ("b", term, 0))], ("end", 0))

    def test_if(self):
        test = ("if", [("value", ("a", ("x", 1), 1), AX)], [("exchange", "a", X, ("x", 1))], [])
        self.done([], [test], [("value", AX, ("a", ("x", 1), 0)), ("rising", "a", X, ("x", 1))])
        self.undone([], [test], [("value", ("a", ("x", 1), 0), AX)], ("end", 0))
        two = [("place", X, Y), ("value", ("v", 0), ("w", 0))]
        self.done([], [("if", two, [], [("set_place", "x", Y), ("set_value", "v", ("w", 0))])], two)
        self.undone([], [("if", two, [], [("set_place", "x", Y)])], two, ("end", 1))
        self.undone([], [("if", two, [("set_place", "y", ("y", -1))], [("set_value", "v", ("w", 0))])], two, ("end", 0))
        self.done([], [("if", [], [("set_place", "x", Y)], [("set_place", "x", ("y", 5))])], [("place", X, Y)])
        self.done([], [("if", [("value", ("", 1), ZERO)], [("set_place", "x", ("y", 5))], [("set_place", "x", Y)])], [("place", X, Y)])
        inner = ("if", two[1:], [("set_value", "u", ("w", 0))], [("set_value", "u", ("v", 0))])
        self.done([], [("if", two[:1], [inner], [inner])], [("value", ("v", 0), ("u", 0)), ("value", ("w", 0), ("u", 0))])

    def test_conditions_are_looked_at_when_they_are_met(self):
        steps = [("put", "a", X, ("", 5)), ("set_place", "y", X), ("if", [("value", AY, ("", 5))], [], [("set_value", "v", ("v", 1))]),
                 ("put", "a", X, ("", 9))]
        self.done([("value", ("v", 0), ZERO)], steps, [("value", ("v", 0), ZERO), ("value", ("", 9), AY)])


class WithLoops(Asking):
    kept = [("low", "a", ZERO, ("x", -1), ZERO), ("place", ZERO, X)]
    body = [("put", "a", X, ("", 7)), NEXT]
    more = [("place", ("x", 1), N)]

    def steps(self, before=(("set_place", "x", ZERO),), conditions=None, kept=None, body=None, after=()):
        loop = ("loop", self.more if conditions is None else conditions, self.kept if kept is None else kept,
                self.body if body is None else body)
        return [*before, loop, *after]

    def test_all_duties_done(self):
        self.done([], self.steps(), [("low", "a", ZERO, ("n", -1), ZERO)])
        self.done([], self.steps(), [])
        self.undone([], self.steps(), [("low", "a", ZERO, N, ZERO)], ("end", 0))

    def test_each_duty_by_itself(self):
        behind = [("low", "a", ZERO, ("n", -1), ZERO)]
        self.undone([], self.steps(before=[]), behind, ("ahead", 0), ("ahead", 1))
        self.undone([], self.steps(before=[("set_place", "x", ("", -1))]), behind, ("ahead", 1))
        self.done([("place", X, ZERO), ("place", ZERO, X)], self.steps(before=[]), behind)
        self.undone([], self.steps(body=[NEXT]), behind, ("round", 0))
        self.undone([], self.steps(body=[("put", "a", X, ("", 7)), ("set_place", "x", ("", -3))]), behind, ("round", 1))
        self.undone([], self.steps(kept=self.kept[1:]), behind, ("end", 0))
        self.undone([], self.steps(after=[("put", "a", ("n", -1), ("", -1))]), behind, ("end", 0))
        self.undone([], self.steps(conditions=self.more + [FALSE]), behind, ("end", 0))

    def test_order(self):
        bad = [("place", X, Y), ("place", X, X), FALSE]
        steps = [("loop", [], bad[:2], [NEXT]), ("set_place", "y", ("y", 1))]
        self.undone([], steps, bad, ("ahead", 0), ("round", 0))
        steps = [("loop", [("place", N, N), ("place", ("n", 1), X)], bad[:2], [NEXT]), ("set_place", "y", ("y", -1))]
        self.undone([], steps, bad[::-1], ("ahead", 0), ("round", 0), ("end", 0), ("end", 2))
        steps = [("loop", [("place", ("n", 1), X)], [FALSE], [NEXT])]
        self.undone([], steps, bad, ("ahead", 0))

    def test_no_conditions(self):
        """Such a loop never ends, so nothing is to be done behind it."""
        self.done([], [("loop", [], [], [])], [FALSE, ("place", X, Y)])
        self.undone([], [("loop", [], [("place", X, Y)], [NEXT])], [FALSE], ("ahead", 0), ("round", 0))

    def test_what_is_not_kept_is_not_known(self):
        ahead = [("place", Y, ("", 4)), ("rising", "b", None, None)]
        behind = [("place", Y, ("", 4)), ("rising", "b", None, None)]
        self.undone(ahead, self.steps(), behind, ("end", 0), ("end", 1))
        self.done(ahead, self.steps(kept=self.kept + ahead), behind)
        self.undone(ahead, [("loop", [FALSE], [], [])], behind, ("end", 0), ("end", 1))
        self.undone(ahead, [("loop", [FALSE], [], [])], behind[:1], ("end", 0))

    def test_end_knows_some_condition_false(self):
        two = [("place", X, Y), ("value", ("v", 0), ("w", 0))]
        steps = [("loop", two, [], [("set_place", "x", ("x", 1))])]
        self.undone([], steps, [("place", ("y", 1), X), ("value", ("w", 1), ("v", 0))], ("end", 0), ("end", 1))
        kept = [("place", X, Y)]
        steps = [("loop", two, kept, [("set_value", "v", ("v", 1))])]
        self.done(kept, steps, [("value", ("w", 1), ("v", 0))])

    def test_if_ahead_within_and_behind(self):
        top = ("if", [("place", ZERO, N)], [("set_place", "x", ZERO)], [("set_place", "x", N)])
        kept = [("place", X, N)]
        self.done([], [top, ("loop", self.more, kept, [NEXT])], [("place", N, X), ("place", X, N)])
        self.undone([], [top, ("loop", self.more, [("place", ZERO, X)], [NEXT])], [], ("ahead", 0))
        inner = ("if", [("value", ("v", 0), AX)], [("set_value", "v", AX)], [])
        kept = [("high", "a", ZERO, ("x", -1), ("v", 0))]
        steps = [("set_place", "x", ZERO), ("loop", self.more, kept, [inner, NEXT])]
        self.done([], steps, [("high", "a", ZERO, ("n", -1), ("v", 0))])
        self.undone([], [steps[0], ("loop", self.more, kept, [inner[:2] + ([], []), NEXT])], [], ("round", 0))
        last = ("if", [("place", ("n", 1), X)], [("set_place", "x", N)], [])
        self.done([], [("loop", self.more, [], [NEXT]), last], [("place", N, X), ("place", X, N)])
        self.undone([], [("loop", self.more, [], [NEXT]), last[:2] + ([], [])], [("place", X, N)], ("end", 0))

    def test_bubble(self):
        """A round carries the greatest cell from 0 to x along."""
        kept = [("high", "a", ZERO, X, AX), ("place", ZERO, X)]
        test = ("if", [("value", ("a", ("x", 1), 1), AX)], [("exchange", "a", X, ("x", 1))], [])
        loop = ("loop", [("place", ("x", 1), N)], kept, [test, NEXT])
        self.done([], [("set_place", "x", ZERO), loop], [("place", N, X)])
        self.undone([("place", ZERO, N)], [("set_place", "x", ZERO), loop], [("high", "a", ZERO, N, ("a", N, 0))], ("end", 0))
        full = [("set_place", "x", ZERO), ("loop", loop[1], kept + [("place", X, N)], [test, NEXT])]
        self.done([("place", ZERO, N)], full, [("high", "a", ZERO, N, ("a", N, 0))])
        self.undone([("place", ZERO, N)], full, [("rising", "a", ZERO, N)], ("end", 0))


class Random(Asking):
    def sayings(self, rng, most, words=WORDS):
        return [random_saying(rng, [random_term(rng) for _ in range(4)], size=1, words=words) for _ in range(rng.randint(0, most))]

    def program(self, rng):
        steps = random_steps(rng, rng.randint(0, 3))
        if rng.random() < 0.6:
            words = rng.choice([WORDS, ("rising", "low", "high"), ("place", "value", "same"), ("below", "place")])
            loop = ("loop", random_conditions(rng), self.sayings(rng, 2, words), random_steps(rng, rng.randint(0, 2)))
            steps.insert(rng.randint(0, len(steps)), loop)
        return steps

    def test_beside_plain_answers(self):
        rng = random.Random(60)
        words = {}
        for _ in range(250):
            ahead, steps = self.sayings(rng, 2), self.program(rng)
            behind = self.sayings(rng, 2) + ahead[:1]
            wanted = [
                (word, index)
                for word, starts, part, sayings in plain_duties(ahead, steps, behind)
                for index, saying in enumerate(sayings)
                if plainly_has_gap(starts, part, saying)
            ]
            found = self.ask(ahead, steps, behind)
            self.assertEqual(found, wanted, (ahead, steps, behind))
            words.update({word: True for word, _ in found or [("none", 0)]})
        self.assertEqual(len(words), 4)

    def test_beside_runs(self):
        """No run that begins and ends as told may break a promise that holds."""
        rng = random.Random(61)
        looked = 0
        for _ in range(400):
            ahead, steps = self.sayings(rng, 1), random_steps(rng, rng.randint(1, 4))
            behind = self.sayings(rng, 2) + ahead
            program = Program(steps)
            found = duties(ahead, program, behind)
            for _ in range(6):
                state = random_state(rng, places="xy")
                if all_true(ahead, state):
                    after = run(program, state, 100)
                    for index, saying in enumerate(behind):
                        if not is_true(saying, after):
                            looked += 1
                            self.assertIn(("end", index), found)
                            self.assertTrue(judge_gap(ahead, program, behind, ("end", index, state)))
                        else:
                            self.assertFalse(judge_gap(ahead, program, behind, ("end", index, state)))
        self.assertGreater(looked, 300)


class JudgeGap(Asking):
    kept = [("place", ZERO, X), ("place", X, ("n", 1))]
    steps = [("set_place", "x", Y), ("loop", [("place", X, N)], kept, [("put", "a", X, ("v", 0)), ("set_place", "x", ("x", 2))]),
             ("set_value", "w", AX)]
    ahead, behind = [("rising", "a", None, None)], [("value", ("w", 0), ("v", 0)), ("place", N, X)]

    def judge(self, wanted, word, index, state, steps=None):
        before = repr([state.places, state.numbers, state.arrays])
        told = judge_gap(self.ahead, Program(steps or self.steps), self.behind, (word, index, state))
        self.assertIs(told, wanted, (word, index, before))
        self.assertEqual(repr([state.places, state.numbers, state.arrays]), before)

    def test_each_duty(self):
        self.assertEqual(duties(self.ahead, Program(self.steps), self.behind), [("ahead", 0), ("ahead", 1), ("round", 1), ("end", 0)])
        start = State({"x": 0, "y": -1, "n": 0}, {}, {"a": [(0, 1)]})
        self.judge(True, "ahead", 0, start)
        self.judge(False, "ahead", 1, start)
        middle = State({"x": 3, "n": 3}, {"v": 4}, {"a": [(0, 0)]})
        self.judge(True, "round", 1, middle)
        self.judge(False, "round", 0, middle)
        last = State({"x": 1, "n": 0}, {"v": 0, "w": 0}, {"a": [(0, 5)]})
        self.judge(True, "end", 0, last)
        self.judge(False, "end", 1, last)

    def test_from_each_duty_only_its_own_states(self):
        middle = State({"x": 3, "y": 0, "n": 3}, {"v": 4, "w": 0}, {"a": [(0, 0)]})
        self.judge(True, "round", 1, middle)
        self.judge(False, "end", 0, middle)
        self.judge(False, "end", 1, middle)
        self.judge(False, "ahead", 1, middle)

    def test_wrong_words_and_indexes(self):
        state = State({"x": 3, "y": 9, "n": 3}, {"v": 4, "w": 0}, {"a": [(0, 0)]})
        self.judge(True, "round", 1, state)
        self.judge(True, "ahead", 1, state)
        for word in ["", "rounds", "loop", "Round", "behind", "start"]:
            self.judge(False, word, 1, state)
        for index in [-1, -2, 2, 5, 10 ** 61, -(10 ** 61)]:
            for word in ["ahead", "round", "end"]:
                self.judge(False, word, index, state)
        for word in ["ahead", "round"]:
            self.judge(False, word, 0, state, [("set_value", "w", AX)])
        self.judge(True, "end", 1, State({"x": 0, "n": 1}, {"w": 1}, {"a": [(0, 0)]}), [("set_value", "w", AX)])

    def test_state_that_lacks_a_name_or_has_more(self):
        names = [("places", "x", 3), ("places", "n", 3), ("numbers", "v", 4), ("arrays", "a", [(0, 0)])]

        def state(rows):
            parts = {"places": {}, "numbers": {}, "arrays": {}}
            for kind, name, thing in rows:
                parts[kind][name] = thing
            return State(parts["places"], parts["numbers"], parts["arrays"])

        self.judge(True, "round", 1, state(names))
        for at in range(4):
            self.judge(False, "round", 1, state(names[:at] + names[at + 1:]))
        more = [("places", "z", -1), ("numbers", "u", 0), ("arrays", "c", [(0, 3), (9, 4)])]
        self.judge(True, "round", 1, state(names + more))
        self.judge(False, "round", 1, state(names[:3] + [("places", "a", 0)]))

    def test_names_of_all_sorts_of_parts(self):
        """Names of a branch that is not taken, of a false condition's own, and of a thing that is only set are wanted."""
        steps = [("if", [("place", X, ("k", 0))], [("set_value", "w", ("", 3))], [("copy", "c", "a", X, ("m", 0))])]
        full = {"x": 0, "k": 0, "m": 0, "n": 1}
        self.judge(True, "end", 1, State(full, {"w": 0}, {"a": [(0, 0)], "c": [(0, 0)]}), steps)
        for name in full:
            self.judge(False, "end", 1, State({other: full[other] for other in full if other != name}, {"w": 0},
                                              {"a": [(0, 0)], "c": [(0, 0)]}), steps)
        self.judge(False, "end", 1, State(full, {}, {"a": [(0, 0)], "c": [(0, 0)]}), steps)
        self.judge(False, "end", 1, State(full, {"w": 0}, {"a": [(0, 0)]}), steps)
        self.judge(False, "end", 1, State(full, {"w": 0}, {"c": [(0, 0)]}), steps)

    def test_no_start(self):
        falling = State({"x": 0, "y": -1}, {}, {"a": [(0, 1), (1, 0)]})
        self.judge(False, "ahead", 0, falling)
        self.judge(True, "ahead", 0, State({"x": 0, "y": -1}, {}, {"a": [(0, 0), (1, 1)]}))
        self.judge(False, "round", 1, State({"x": -1, "n": -1}, {"v": 4}, {"a": [(0, 0)]}))
        self.judge(False, "round", 1, State({"x": 3, "n": 2}, {"v": 4}, {"a": [(0, 0)]}))
        self.judge(False, "end", 0, State({"x": 1, "n": 1}, {"v": 0, "w": 0}, {"a": [(0, 5)]}))
        self.judge(False, "end", 0, State({"x": 5, "n": 1}, {"v": 0, "w": 0}, {"a": [(0, 5)]}))

    def test_by_name(self):
        told = first_gap(ahead=self.ahead, program=Program(self.steps), behind=self.behind)
        self.assertEqual(told[:2], ("ahead", 0))
        self.assertIs(judge_gap(told=told, ahead=self.ahead, program=Program(self.steps), behind=self.behind), True)
        self.assertIs(holds(ahead=[], program=Program([]), behind=[]), True)
        self.assertEqual(duties(behind=[FALSE], program=Program([]), ahead=[]), [("end", 0)])


class LargestKept(unittest.TestCase):
    fill = [("set_place", "x", ZERO), ("loop", [("place", ("x", 1), N)], [FALSE], [("put", "a", X, ("", 7)), NEXT])]

    def plainly(self, ahead, steps, offered):
        """The largest of all parts that a loop keeps."""
        index = [at for at, step in enumerate(steps) if step[0] == "loop"][0]
        _, conditions, _, body = steps[index]
        best = []
        for code in range(2 ** len(offered)):
            part = [at for at in range(len(offered)) if code >> at & 1]
            kept = [offered[at] for at in part]
            if not any(plainly_has_gap([ahead], steps[:index], each) or plainly_has_gap([kept + conditions], body, each) for each in kept):
                best = max(best, part, key=len)
        return best

    def test_none_some_and_all(self):
        program = Program(self.fill)
        good = [("low", "a", ZERO, ("x", -1), ("", 7)), ("place", ZERO, X)]
        self.assertEqual(largest_kept([], program, []), [])
        self.assertEqual(largest_kept([], program, good), [0, 1])
        self.assertEqual(largest_kept([], program, good[::-1]), [0, 1])
        self.assertEqual(largest_kept([], program, good[:1]), [0])
        self.assertEqual(largest_kept([], program, [("place", X, ("", 1)), *good]), [1, 2])
        self.assertEqual(largest_kept([], program, [good[1], FALSE, good[0]]), [0, 2])
        self.assertEqual(largest_kept([], program, [FALSE, ("place", X, ("", 5)), ("rising", "a", None, None)]), [])
        self.assertEqual(largest_kept([], program, good[1:] * 2), [0, 1])

    def test_ahead(self):
        offered = [("place", ("", 2), N), ("place", X, N), ("rising", "b", None, None)]
        program = Program(self.fill)
        self.assertEqual(largest_kept([], program, offered), [])
        self.assertEqual(largest_kept([("place", ("", 2), N)], program, offered), [0, 1])
        self.assertEqual(largest_kept([offered[2]], program, offered), [2])
        self.assertEqual(largest_kept([FALSE], program, offered), [0, 1, 2])
        self.assertEqual(largest_kept([FALSE], program, offered + [FALSE]), [0, 1, 2, 3])

    def test_one_lost_after_the_other(self):
        """Each is kept as long as the next one is, and the last one is not."""
        chain = [("value", ("u", 0), ("v", 0)), ("value", ("v", 0), ("w", 0)), ("value", ("w", 0), ("", 9))]
        body = [("set_value", "u", ("v", 0)), ("set_value", "v", ("w", 0)), ("set_value", "w", ("w", 1))]
        steps = [("loop", [], [], body)]
        self.assertEqual(largest_kept(chain, Program(steps), chain), [0, 1])
        steps = [("loop", [], [], [("set_place", "x", Y), ("set_place", "y", N), ("set_place", "n", ("n", 1))])]
        chain = [("place", X, ZERO), ("place", Y, ZERO), ("place", N, ZERO)]
        self.assertEqual(largest_kept(chain, Program(steps), chain), [])
        self.assertEqual(largest_kept(chain, Program([("loop", [("place", ("n", 1), ZERO)], [], steps[0][3])]), chain), [0, 1, 2])

    def test_beside_all_parts(self):
        rng = random.Random(62)
        sizes = {}
        for _ in range(60):
            words = rng.choice([("place",), ("value", "place", "low"), ("rising", "high", "same")])
            offered = [random_saying(rng, [random_term(rng, 1) for _ in range(3)], size=1, words=words) for _ in range(3)]
            loop = ("loop", random_conditions(rng, 1, 1), [FALSE], random_steps(rng, rng.randint(0, 2), 1, 1))
            steps = random_steps(rng, rng.randint(0, 1), 0, 1) + [loop]
            ahead = rng.choice([[], offered, offered[:2]])
            found = largest_kept(ahead, Program(steps), offered)
            self.assertEqual(found, self.plainly(ahead, steps, offered), (ahead, steps, offered))
            sizes[len(found)] = True
        self.assertEqual(len(sizes), 4)

    def test_arguments(self):
        offered, program = [("place", ZERO, X)], Program(self.fill)
        found = largest_kept(ahead=[], program=program, offered=offered)
        self.assertEqual(found, [0])
        found.append(3)
        self.assertEqual(largest_kept([], program, offered), [0])
        self.assertEqual((offered, program.steps), ([("place", ZERO, X)], self.fill))


class Ends(unittest.TestCase):
    def program(self, conditions=(("place", ("x", 1), N),), kept=(), body=(NEXT,)):
        return Program([("loop", list(conditions), list(kept), list(body))])

    def test_ordinary(self):
        self.assertIs(ends(self.program(), X, N), True)
        self.assertIs(ends(self.program(), X, ("n", -1)), True)
        self.assertIs(ends(self.program(), ("x", 3), ("n", 2)), True)
        self.assertIs(ends(self.program(body=[("set_place", "x", ("x", 2))]), X, N), True)
        self.assertIs(ends(self.program(body=[NEXT, ("set_place", "n", ("n", -1))]), X, N), True)

    def test_each_of_three_conditions(self):
        """p is at most q, p is raised, q is not."""
        self.assertIs(ends(self.program(), X, ("n", -2)), False)
        self.assertIs(ends(self.program(conditions=[]), X, N), False)
        self.assertIs(ends(self.program(body=[]), X, N), False)
        self.assertIs(ends(self.program(body=[("set_place", "x", ("x", -1))]), X, N), False)
        self.assertIs(ends(self.program(body=[NEXT, ("set_place", "n", ("n", 1))]), X, N), False)
        self.assertIs(ends(self.program(), ZERO, N), False)
        self.assertIs(ends(self.program(), X, X), False)
        self.assertIs(ends(self.program(body=[("set_place", "x", N)]), X, N), True)

    def test_falling(self):
        down = self.program(conditions=[("place", ZERO, X)], body=[("set_place", "x", ("x", -1)), ("set_place", "y", ("y", 1))])
        self.assertIs(ends(down, ZERO, X), False)
        self.assertIs(ends(down, Y, ("", 3)), False)
        both = self.program(conditions=[("place", Y, X)], body=[("set_place", "x", ("x", -1)), ("set_place", "y", ("y", 1))])
        self.assertIs(ends(both, Y, X), True)

    def test_kept_statements_and_conditions_are_known(self):
        body = [("if", [("value", AX, ("v", 0))], [NEXT], [])]
        self.assertIs(ends(self.program(body=body), X, N), False)
        self.assertIs(ends(self.program(body=body, kept=[("high", "a", None, N, ("v", 0))]), X, N), True)
        self.assertIs(ends(self.program(body=body, kept=[("high", "a", None, ("n", -1), ("v", 0))]), X, N), True)
        self.assertIs(ends(self.program(body=body, kept=[("high", "a", None, ("n", -2), ("v", 0))]), X, N), False)
        self.assertIs(ends(self.program(conditions=[("place", ("x", 1), N), ("value", AX, ("v", 0))], body=body), X, N), True)

    def test_no_state_to_begin_with(self):
        self.assertIs(ends(self.program(conditions=[FALSE], body=[]), X, N), True)
        self.assertIs(ends(self.program(kept=[("place", ("x", 1), X)], body=[]), ("", 5), ZERO), True)

    def test_both_branches(self):
        test = ("if", [("place", X, Y)], [NEXT], [("set_place", "x", ("x", 2))])
        self.assertIs(ends(self.program(body=[test]), X, N), True)
        self.assertIs(ends(self.program(body=[test[:3] + ([],)]), X, N), False)
        self.assertIs(ends(self.program(body=[test[:2] + ([], [NEXT])]), X, N), False)
        self.assertIs(ends(self.program(body=[test[:2] + ([], []), NEXT]), X, N), True)

    def test_steps_beside_the_loop_make_no_difference(self):
        loop = self.program().steps
        for before, after in [([], [("set_place", "n", ("", -99))]), ([("set_place", "x", ("n", 5))], []), ([NEXT], [NEXT])]:
            self.assertIs(ends(program=Program(before + loop + after), q=N, p=X), True)

    def test_beside_plain_answers(self):
        rng = random.Random(63)
        answers = {True: 0, False: 0}
        for _ in range(150):
            p, q = random_term(rng, 3), random_term(rng, 3)
            body = random_steps(rng, rng.randint(1, 3)) + [("set_place", "x", ("x", rng.choice([1, 2])))]
            conditions = random_conditions(rng) + [("place", p, q)] * rng.randint(0, 1)
            kept = [random_saying(rng, [random_term(rng) for _ in range(3)], size=1) for _ in range(rng.randint(0, 1))]
            start, old = kept + conditions, [("set_place", "p", p), ("set_place", "q", q)]
            wanted = not any([plainly_has_gap([start], [], ("place", p, q)),
                              plainly_has_gap([start], old + body, ("place", ("p", 1), p)),
                              plainly_has_gap([start], old + body, ("place", q, ("q", 0)))])
            found = ends(self.program(conditions, kept, body), p, q)
            self.assertIs(found, wanted, (conditions, kept, body, p, q))
            answers[found] += 1
        self.assertGreater(min(answers.values()), 20)


class Errors(Refusing):
    program = Program([("loop", [("place", X, N)], [], [NEXT])])
    wrong = [(("place", X), InvalidSaying, ("place", X)), (("rising", "A", None, 3), InvalidName, "A"), ([[]], InvalidSaying, [[]]),
             (("low", "a", X, None, ("v", None)), InvalidTerm, ("v", None)), (None, InvalidSaying, None)]

    def test_of_statements(self):
        def judged(ahead, program, behind):
            return judge_gap(ahead, program, behind, ("end", 0, State({}, {}, {})))

        for call in (holds, duties, first_gap, largest_kept, judged):
            for bad, kind, value in self.wrong:
                self.refused(kind, value, call, [bad], self.program, [])
                self.refused(kind, value, call, [], self.program, [bad])
                self.refused(kind, value, call, [FALSE, bad, ("same",)], self.program, [("same",)])
                self.refused(kind, value, call, [FALSE], self.program, [FALSE, bad, ("same",)])
        self.assertEqual(self.program.steps, [("loop", [("place", X, N)], [], [NEXT])])

    def test_of_ends(self):
        for bad in [None, "x", ("x", True), ("a", X, 0), ["x", 0], ("abcdefg", 0), 3]:
            self.refused(InvalidTerm, bad, ends, self.program, bad, X)
            self.refused(InvalidTerm, bad, ends, self.program, X, bad)
            self.refused(InvalidTerm, bad, ends, self.program, bad, ())


if __name__ == "__main__":
    unittest.main()
