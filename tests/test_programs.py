"""[2] to [6] and the section of programs.py."""

import copy
import random
import unittest

from allcells.errors import InvalidName, InvalidSaying, InvalidStep, InvalidTerm, TooLong, Unknown
from allcells.programs import Program, run
from allcells.sayings import first_false
from allcells.states import State
from oracle import all_new, random_state
from plain_programs import Missing, PlainRun, TooMany, random_conditions, random_steps
from refusing import Refusing

X, Y, N, ZERO = ("x", 0), ("y", 0), ("n", 0), ("", 0)
AX, AY = ("a", X, 0), ("a", Y, 0)
UP = ("place", X, Y)
EACH = [
    ("set_place", "x", ("y", 1)), ("set_value", "v", ("a", X, 2)), ("set_value", "v", ("", 3)), ("put", "a", X, ("v", 0)),
    ("exchange", "a", X, ("", 3)), ("copy", "a", "b", X, Y), ("if", [UP], [("set_place", "x", X)], []),
    ("if", [], [], []), ("loop", [("value", AX, AY)], [("rising", "a", None, X)], [("set_place", "x", ("x", 1))]),
    ("loop", [], [], []),
]


class InAllPlaces(Refusing):
    def wrong(self, kind, value, *steps):
        """Each place in which the steps may stand."""
        steps = list(steps)
        self.refused(kind, value, Program, steps)
        self.refused(kind, value, Program, EACH + steps)
        self.refused(kind, value, Program, steps + [None])
        self.refused(kind, value, Program, [("if", [UP], [EACH[0]] + steps, [None])])
        self.refused(kind, value, Program, [("if", [], EACH[:2], steps)])
        self.refused(kind, value, Program, [("loop", [UP], [UP], steps)])
        self.refused(kind, value, Program, [("loop", [], [], [("if", [], [], steps)])])


class Steps(InAllPlaces):
    def test_each_sort(self):
        for step in EACH:
            self.assertEqual(Program([step]).steps, [step])
        self.assertEqual(Program(EACH).steps, EACH)
        self.assertEqual(Program([]).steps, [])

    def test_not_one_of_these_tuples(self):
        for bad in [None, 5, "put", [], (), ("x",), (None,), (3, 4), (["if"], [], [], []), (("if",), [], [], []), ("Put", "a", X, X),
                    ("same", "a", "b", X, Y, 0), list(EACH[0]), True, "", ("if",), ("",)]:
            self.wrong(InvalidStep, bad, bad)
        for step in EACH:
            self.wrong(InvalidStep, step[:-1], step[:-1])
            self.wrong(InvalidStep, step + (0,), step + (0,))
            self.wrong(InvalidStep, step + ([],), step + ([],))
            self.wrong(InvalidStep, list(step), list(step))

    def test_lists_where_lists_are_wanted(self):
        for other in [(), None, ("place", X, Y), "", 0, (UP,), "ab", True]:
            for at in (1, 2, 3):
                bad = ("if", [], [], [])[:at] + (other,) + ("if", [], [], [])[at + 1:]
                self.wrong(InvalidStep, bad, bad)
                bad = ("loop", [], [], [])[:at] + (other,) + ("loop", [], [], [])[at + 1:]
                self.refused(InvalidStep, bad, Program, [bad])
        bad = ("if", [("place", X)], [None], None)
        self.wrong(InvalidStep, bad, bad)

    def test_loop_in_another_step(self):
        loop = ("loop", [UP], [], [])
        for step in [("if", [], [loop], []), ("if", [], [], [EACH[0], loop]), ("loop", [], [], [loop]),
                     ("loop", [], [], [("if", [], [], [loop])]), ("if", [], [("if", [], [], [loop])], [])]:
            self.refused(InvalidStep, loop, Program, [step])
        bad = ("loop", [("place", X)], None, [None])
        self.refused(InvalidStep, bad, Program, [("if", [], [bad], [])])
        self.assertEqual(len(Program([loop, loop])), 2)

    def test_terms(self):
        for bad in [None, 3, "x", ("x",), ("x", "1"), ("x", True), ("X", 0), ("abcdefg", 0), ["x", 0], ("a", X, 0), ([], 0)]:
            self.wrong(InvalidTerm, bad, ("set_place", "x", bad))
            self.wrong(InvalidTerm, bad, ("put", "a", bad, None))
            self.wrong(InvalidTerm, bad, ("exchange", "a", bad, None))
            self.wrong(InvalidTerm, bad, ("exchange", "a", X, bad))
            self.wrong(InvalidTerm, bad, ("copy", "a", "b", bad, None))
            self.wrong(InvalidTerm, bad, ("copy", "a", "b", X, bad))
            if bad != ("a", X, 0):
                self.wrong(InvalidTerm, bad, ("set_value", "v", bad))
                self.wrong(InvalidTerm, bad, ("put", "a", X, bad))
            self.wrong(InvalidTerm, bad, ("set_value", "v", ("", bad, None)))
        for bad in [("a", X, None), ("", X, 0), ("A", X, 0), ("a", X, True), (1, X, 0), ("a", X, 0, 0)]:
            self.wrong(InvalidTerm, bad, ("set_value", "v", bad))
            self.wrong(InvalidTerm, bad, ("put", "a", X, bad))

    def test_names(self):
        for bad in ["", "A", "abcdefg", 3, None, True, ("x", 0), ["a"], "a b", "x1"]:
            for step in [("set_place", bad, None), ("set_value", bad, None), ("put", bad, None, None), ("exchange", bad, None, None),
                         ("copy", bad, "", None, None), ("copy", "a", bad, None, None)]:
                self.wrong(InvalidName, bad, step)

    def test_conditions_and_kept(self):
        for word in ["if", "loop"]:
            for bad, kind, value in [(None, InvalidSaying, None), (("place", X), InvalidSaying, ("place", X)),
                                     (("place", X, None), InvalidTerm, None), (("value", ("a", 1, 0), ("", 0)), InvalidTerm, 1),
                                     (("rising", "", X, Y), InvalidName, ""), (["place", X, Y], InvalidSaying, ["place", X, Y]),
                                     (("rising", "a", X, Y), InvalidSaying, ("rising", "a", X, Y)),
                                     (("same", "a", "b", None, None, 0), InvalidSaying, ("same", "a", "b", None, None, 0)),
                                     (("low", "a", None, None, ("v", 0)), InvalidSaying, ("low", "a", None, None, ("v", 0)))]:
                for conditions in ([bad], [UP, bad], [bad, None], [UP, bad, ("rising", "a", X, Y)]):
                    step = (word, conditions, [], [])
                    if word == "if":
                        self.wrong(kind, value, step)
                    self.refused(kind, value, Program, [step])
        for bad, kind, value in [(None, InvalidSaying, None), (("rising", "", None, X), InvalidName, ""),
                                 (("low", "a", None, 5, None), InvalidTerm, 5), (("same", "a", "b", None, None, None), InvalidSaying,
                                                                                 ("same", "a", "b", None, None, None))]:
            self.refused(kind, value, Program, [("loop", [UP], [UP, bad], [None])])
        self.assertEqual(len(Program([("loop", [], [("rising", "a", None, X)], [])])), 1)

    def test_from_the_left(self):
        self.wrong(InvalidName, "", ("put", "", 3, 4))
        self.wrong(InvalidTerm, 3, ("put", "a", 3, 4))
        self.wrong(InvalidTerm, 4, ("put", "a", X, 4))
        self.wrong(InvalidName, "B", ("copy", "a", "B", 3, 4))
        self.wrong(InvalidTerm, 1, ("set_value", "v", ("", 1, None)))
        self.refused(InvalidTerm, 1, Program, [("loop", [("place", 1, 2)], [None], [None])])
        self.refused(InvalidSaying, 2, Program, [("loop", [], [2], [None])])

    def test_step_ahead_of_those_in_it(self):
        self.wrong(InvalidSaying, 7, ("if", [7], [None], [None]))
        self.wrong(InvalidStep, 1, ("if", [], [1], [2]))
        self.wrong(InvalidStep, 2, ("if", [], [], [2]), 3)
        self.wrong(InvalidStep, 1, ("if", [UP], [("if", [], [], [1])], [2]), 3)
        self.wrong(InvalidStep, ("if", [], [], None), ("if", [UP], [("if", [], [], None)], [("put",)]))
        self.refused(InvalidName, "", Program, [EACH[0], ("set_place", "", X), ("if", [None], [], [])])
        self.refused(InvalidStep, 9, Program, [("loop", [], [], [EACH[0], 9]), 8])

    def test_the_value_of_an_error_is_new(self):
        inner = []
        with self.assertRaises(InvalidStep) as caught:
            Program([("if", inner, inner, (inner,))])
        self.assertEqual(caught.exception.value, ("if", [], [], ([],)))
        self.assertTrue(all_new(caught.exception.value, inner))
        inner.append(1)
        self.assertEqual(caught.exception.value, ("if", [], [], ([],)))


class Programs(unittest.TestCase):
    def test_steps_are_new(self):
        inner, conditions = [("set_place", "x", X)], [UP]
        given = [("if", conditions, inner, inner), ("loop", conditions, conditions, inner)]
        wanted = copy.deepcopy(given)
        program = Program(given)
        self.assertTrue(all_new(program.steps, given))
        inner.append(None)
        conditions.clear()
        given.append(3)
        self.assertEqual(program.steps, wanted)
        told = program.steps
        self.assertTrue(all_new(told, program.steps))
        told[0][1].append(5)
        told[0][2].clear()
        told[1][3][0] = None
        told.pop()
        self.assertEqual(program.steps, wanted)
        self.assertEqual(len(program), 5)

    def test_then_and_sum(self):
        one, other = Program(EACH[:3]), Program(EACH[3:])
        for both in (one.then(other), one + other, one.then(other=other)):
            self.assertIsInstance(both, Program)
            self.assertEqual(both.steps, EACH)
            self.assertTrue(all_new(both.steps, one.steps, other.steps))
        self.assertEqual((one.steps, other.steps), (EACH[:3], EACH[3:]))
        self.assertEqual((other + one).steps, EACH[3:] + EACH[:3])
        self.assertEqual((one + one).steps, EACH[:3] * 2)
        self.assertEqual(one + Program([]), one)
        self.assertEqual(Program([]) + one, one)

    def test_length(self):
        self.assertEqual(len(Program([])), 0)
        self.assertEqual(len(Program(EACH)), 12)
        self.assertEqual([len(Program([each])) for each in EACH], [1, 1, 1, 1, 1, 1, 2, 1, 2, 1])
        deep = ("if", [], [("if", [], EACH[:2], EACH[:3])], [EACH[0]])
        self.assertEqual(len(Program([deep])), 8)
        self.assertEqual(len(Program([("loop", [UP, UP], [UP], [deep, deep])])), 17)

    def test_equality(self):
        for at, step in enumerate(EACH):
            for other in range(len(EACH)):
                self.assertIs(Program([step]) == Program([EACH[other]]), at == other)
                self.assertIs(Program([step]) != Program([EACH[other]]), at != other)
        program = Program(EACH)
        self.assertEqual(program, Program(copy.deepcopy(EACH)))
        self.assertNotEqual(Program(EACH), Program(EACH[:-1]))
        self.assertNotEqual(Program([("if", [], EACH[:1], [])]), Program([("if", [], [], EACH[:1])]))
        for other in [None, 0, EACH, tuple(EACH), "", State({}, {}, {}), [], program.steps]:
            self.assertIs(program == other, False)
            self.assertIs(program != other, True)
            self.assertIs(other == program, False)
        self.assertIs(Program([]) == [], False)

    def test_by_name(self):
        self.assertEqual(Program(steps=EACH).steps, EACH)
        self.assertEqual(run(most=1, state=State({}, {}, {}), program=Program(EACH[2:3])), State({}, {"v": 3}, {}))


class Running(Refusing):
    state = State({"x": 1, "y": 3}, {"v": 7}, {"a": [(0, 10), (1, 11), (2, 12), (3, 13)], "b": [(0, 20), (2, 22), (4, 24)]})

    def after(self, *steps, most=100):
        before = repr([self.state.places, self.state.numbers, self.state.arrays])
        found = run(Program(list(steps)), self.state, most)
        self.assertEqual(repr([self.state.places, self.state.numbers, self.state.arrays]), before)
        return found

    def cells(self, array, *steps):
        state = self.after(*steps)
        return [state.value_of((array, ("", at), 0)) for at in range(-2, 8)]

    def test_nothing(self):
        self.assertEqual(self.after(), self.state)
        self.assertEqual(run(Program([]), self.state, 0), self.state)

    def test_places_and_values(self):
        self.assertEqual(self.after(("set_place", "x", ("y", 4))).places, {"x": 7, "y": 3})
        self.assertEqual(self.after(("set_place", "x", ("x", 1))).places, {"x": 2, "y": 3})
        self.assertEqual(self.after(("set_place", "n", ("", -4))).places, {"x": 1, "y": 3, "n": -4})
        self.assertEqual(self.after(("set_value", "v", ("v", 2))).numbers, {"v": 9})
        self.assertEqual(self.after(("set_value", "w", ("b", ("x", 1), -2))).numbers, {"v": 7, "w": 20})
        self.assertEqual(self.after(("set_value", "v", ("", 0))).numbers, {"v": 0})
        one = self.after(("set_place", "x", ("", 0)), ("set_value", "v", AX), ("set_place", "x", ("", 3)), ("set_value", "w", AX))
        self.assertEqual(one.numbers, {"v": 10, "w": 13})

    def test_put(self):
        self.assertEqual(self.cells("a", ("put", "a", X, ("v", 1))), [10, 10, 10, 8, 12, 13, 13, 13, 13, 13])
        self.assertEqual(self.cells("a", ("put", "a", ("", -1), ("a", Y, 1))), [10, 14, 10, 11, 12, 13, 13, 13, 13, 13])
        self.assertEqual(self.cells("a", ("put", "a", ("y", 2), ("b", ("", 9), 0))), [10, 10, 10, 11, 12, 13, 13, 24, 13, 13])
        self.assertEqual(self.cells("b", ("put", "a", X, ("v", 1))), [20, 20, 20, 20, 22, 22, 24, 24, 24, 24])

    def test_exchange(self):
        self.assertEqual(self.cells("a", ("exchange", "a", X, Y)), [10, 10, 10, 13, 12, 11, 13, 13, 13, 13])
        self.assertEqual(self.cells("a", ("exchange", "a", Y, X)), [10, 10, 10, 13, 12, 11, 13, 13, 13, 13])
        self.assertEqual(self.cells("a", ("exchange", "a", Y, ("x", 2))), [10, 10, 10, 11, 12, 13, 13, 13, 13, 13])
        self.assertEqual(self.cells("a", ("exchange", "a", ("", -2), ("", 5))), [13, 10, 10, 11, 12, 13, 13, 10, 13, 13])
        self.assertEqual(self.cells("a", ("exchange", "a", X, ("x", 1))), [10, 10, 10, 12, 11, 13, 13, 13, 13, 13])
        self.assertEqual(self.cells("a", ("exchange", "a", X, Y), ("exchange", "a", X, Y)), self.cells("a"))

    def test_copy(self):
        self.assertEqual(self.cells("a", ("copy", "a", "b", X, Y)), [10, 10, 10, 20, 22, 22, 13, 13, 13, 13])
        self.assertEqual(self.cells("a", ("copy", "a", "b", X, X)), [10, 10, 10, 20, 12, 13, 13, 13, 13, 13])
        self.assertEqual(self.cells("a", ("copy", "a", "b", Y, X)), self.cells("a"))
        self.assertEqual(self.cells("a", ("copy", "a", "b", ("x", 1), X)), self.cells("a"))
        self.assertEqual(self.cells("a", ("copy", "a", "b", ("", -9), ("", 9))), self.cells("b"))
        self.assertEqual(self.cells("a", ("copy", "a", "b", ("", 5), ("", 6))), [10, 10, 10, 11, 12, 13, 13, 24, 24, 13])
        self.assertEqual(self.cells("a", ("copy", "a", "b", ("", -2), ("", -1))), [20, 20, 10, 11, 12, 13, 13, 13, 13, 13])
        for p, q in [(X, Y), (Y, X), (("", -5), ("", 5))]:
            self.assertEqual(self.after(("copy", "a", "a", p, q)), self.state)
            self.assertEqual(self.cells("b", ("copy", "a", "b", p, q)), self.cells("b"))
        both = self.after(("copy", "a", "b", X, Y), ("copy", "b", "a", ZERO, ("x", 1)))
        self.assertEqual([both.value_of(("b", ("", at), 0)) for at in range(0, 4)], [10, 20, 22, 22])

    def test_if(self):
        yes, no = ("set_value", "v", ("", 1)), ("set_value", "v", ("", 2))
        for conditions, number in [([], 1), ([UP], 1), ([("place", Y, X)], 2), ([UP, ("value", AX, AY)], 1),
                                   ([UP, ("value", AY, AX)], 2), ([("value", AY, AX), UP], 2), ([("value", ("v", 0), ("", 7))], 1)]:
            self.assertEqual(self.after(("if", conditions, [yes], [no])).numbers, {"v": number})
            self.assertEqual(self.after(("if", [], [("if", conditions, [yes], [no])], [])).numbers, {"v": number})
        self.assertEqual(self.after(("if", [UP], [], [no]), ("if", [("place", Y, X)], [yes], [])), self.state)
        moved = self.after(("if", [UP], [("set_place", "x", ("", 9)), ("if", [UP], [yes], [no])], [yes]))
        self.assertEqual((moved.numbers, moved.places), ({"v": 2}, {"x": 9, "y": 3}))

    def test_loop(self):
        body = [("put", "a", X, ("v", 0)), ("set_place", "x", ("x", 1)), ("set_value", "v", ("v", -1))]
        for conditions, kept in [([UP], []), ([UP, ("value", ("", 5), ("v", 0))], [("place", ("x", 5), X), ("rising", "q", X, ("z", 0))])]:
            state = self.after(("loop", conditions, kept, body))
            self.assertEqual((state.places["x"], state.numbers), (4, {"v": 4}))
            self.assertEqual([state.value_of(("a", ("", at), 0)) for at in range(6)], [10, 7, 6, 5, 13, 13])
        self.assertEqual(self.after(("loop", [("place", Y, X)], [], body)), self.state)
        self.assertEqual(self.after(("loop", [UP, ("value", ("v", 0), ("", 6))], [], body)), self.state)

    def test_terms_are_taken_as_the_step_begins(self):
        self.assertEqual(self.after(("set_place", "x", ("x", 1)), ("set_place", "y", ("x", 1))).places, {"x": 2, "y": 3})
        state = self.after(("put", "a", ZERO, ("a", ("", 1), 0)), ("put", "a", ("", 1), ("a", ZERO, 5)))
        self.assertEqual([state.value_of(("a", ("", at), 0)) for at in range(3)], [11, 16, 12])

    def test_counts(self):
        loop = ("loop", [("place", ("x", 1), Y)], [], [("set_place", "x", ("x", 1))])
        for steps, needed in [([EACH[0]], 1), ([EACH[1]], 1), ([EACH[3]], 1), ([EACH[4]], 1), ([EACH[5]], 1), (EACH[:5], 5),
                              ([("if", [UP], [], [])], 2), ([("if", [], [EACH[0]], [])], 3), ([("if", [UP], [], EACH[:3])], 2),
                              ([("if", [("place", Y, X)], [EACH[0]], EACH[:3])], 5), ([loop], 1 + 3 + 2), ([loop, EACH[0]], 7),
                              ([EACH[2], loop], 7), ([("loop", [("place", Y, X)], [], [])], 2),
                              ([("if", [], [("if", [], [EACH[0]], [])], [])], 5),
                              ([("loop", loop[1], [], [("if", [UP], loop[3], [])])], 1 + 3 + 2 * 3)]:
            program = Program(steps)
            found = run(program, self.state, needed)
            self.assertEqual(run(program, self.state, needed + 1), found)
            self.assertEqual(run(program, self.state, 10 ** 40), found)
            for most in range(needed):
                self.refused(TooLong, most, run, program, self.state, most)
            self.assertEqual(program.steps, steps)

    def test_endless(self):
        for program in [Program([("loop", [], [], [])]), Program([("loop", [UP], [], [("set_value", "v", ("v", 1))])])]:
            self.refused(TooLong, 400, run, program, self.state, 400)
        self.assertEqual(self.state.numbers, {"v": 7})

    def test_too_long_ahead_of_unknown(self):
        bad = ("put", "q", ("z", 0), ("w", 0))
        self.refused(TooLong, 0, run, Program([bad]), self.state, 0)
        self.refused(Unknown, "q", run, Program([bad]), self.state, 1)
        test = ("if", [("place", ("z", 0), X)], [], [])
        self.refused(TooLong, 1, run, Program([test]), self.state, 1)
        self.refused(Unknown, "z", run, Program([test]), self.state, 2)
        self.refused(TooLong, 0, run, Program([("loop", test[1], [], [])]), self.state, 0)
        self.refused(TooLong, 1, run, Program([("loop", test[1], [], [])]), self.state, 1)
        self.refused(Unknown, "z", run, Program([("loop", test[1], [], [])]), self.state, 2)

    def unknown(self, name, *steps):
        program = Program(list(steps))
        for most in (len(program) * 2 + 20, 10 ** 9):
            self.refused(Unknown, name, run, program, self.state, most)
        self.assertEqual(program, Program(list(steps)))

    def test_names_that_are_not_there(self):
        q, z, w = "q", ("z", 0), ("w", 0)
        self.unknown("z", ("set_place", "x", z))
        self.unknown("z", ("set_place", "z", ("z", 1)))
        self.unknown("w", ("set_value", "w", ("w", 1)))
        self.unknown("q", ("set_value", "v", (q, z, 0)))
        self.unknown("z", ("set_value", "v", ("a", z, 0)))
        self.unknown("q", ("put", q, z, w))
        self.unknown("z", ("put", "a", z, w))
        self.unknown("w", ("put", "a", X, w))
        self.unknown("q", ("put", "a", X, (q, z, 0)))
        self.unknown("z", ("put", "a", X, ("a", z, 0)))
        self.unknown("q", ("put", q, X, ("v", 0)))
        self.unknown("q", ("exchange", q, z, w))
        self.unknown("z", ("exchange", "a", z, w))
        self.unknown("w", ("exchange", "a", X, w))
        self.unknown("q", ("copy", q, "r", z, w))
        self.unknown("r", ("copy", "a", "r", z, w))
        self.unknown("z", ("copy", "a", "b", z, w))
        self.unknown("w", ("copy", "a", "b", X, w))

    def test_empty_stretch_needs_its_names(self):
        self.unknown("q", ("copy", "q", "b", Y, X))
        self.unknown("r", ("copy", "a", "r", Y, X))
        self.unknown("z", ("copy", "a", "b", ("z", 5), ("z", 0)))

    def test_step_by_step(self):
        self.assertEqual(self.after(("set_place", "z", ZERO), ("set_place", "x", ("z", 1))).places, {"x": 1, "y": 3, "z": 0})
        self.unknown("z", ("set_value", "v", ("", 1)), ("set_place", "x", ("z", 0)), ("put", "q", X, X))
        self.assertEqual(self.after(("if", [UP], [], [("put", "q", X, ("w", 0))])), self.state)
        self.unknown("q", ("if", [UP], [("put", "q", X, ("w", 0))], []))
        self.unknown("q", ("if", [UP], [("if", [], [("exchange", "q", X, Y)], [])], []))
        self.assertEqual(self.after(("loop", [("place", Y, X)], [], [("put", "q", X, ("w", 0))])), self.state)
        self.unknown("w", ("loop", [UP], [], [("put", "a", X, ("w", 0))]))
        self.unknown("w", ("loop", [UP], [], [("set_place", "x", ("x", 1)), ("if", [UP], [], [("put", "a", X, ("w", 0))])]))
        self.unknown("m", ("loop", [("place", X, Y)], [], [("set_place", "x", ("x", 9)), ("set_value", "v", ("m", 0))]))

    def test_names_of_conditions(self):
        """All conditions are looked at, as first_false does: places, then values, then arrays, ascending."""
        false = ("place", Y, X)
        terms = [("value", ("q", ("z", 0), 0), ("w", 0)), ("value", ("c", ("m", 0), 0), ("k", 0)), ("place", ("z", 0), ("o", 0))]
        for conditions, name in [([false] + terms, "m"), (terms[:1], "z"), (terms[::-1], "m"), ([("value", ("q", X, 0), ("w", 0))], "w"),
                                 ([("value", ("q", X, 0), ("v", 0)), ("value", ("c", X, 0), ("v", 0))], "c"), (terms[2:], "o")]:
            self.refused(Unknown, name, first_false, conditions, self.state)
            self.unknown(name, ("if", conditions, [], []))
            self.unknown(name, ("loop", conditions, [], []))
            self.unknown(name, ("if", [], [("if", conditions, [], [])], []))
        self.unknown("z", ("loop", [UP, ("place", X, ("z", 0))], [], [("set_place", "x", ("", 9))]))

    def test_nothing_is_changed_by_a_refusal(self):
        program = Program([("put", "a", X, ("v", 0)), ("set_place", "x", ("", 50)), ("put", "q", X, ("v", 0))])
        before = repr([self.state.places, self.state.numbers, self.state.arrays, program.steps])
        self.refused(Unknown, "q", run, program, self.state, 9)
        self.refused(TooLong, 2, run, program, self.state, 2)
        self.assertEqual(repr([self.state.places, self.state.numbers, self.state.arrays, program.steps]), before)

    def test_states_do_not_share(self):
        program = Program([("put", "a", X, ("v", 0))])
        first, second = run(program, self.state, 5), run(program, self.state, 5)
        self.assertEqual(first, second)
        first.arrays["a"].append((9, 9))
        first.places["x"] = 4
        self.assertEqual(first, second)
        self.assertEqual(run(program, first, 1), second)

    def test_beside_a_plain_run(self):
        rng = random.Random(50)
        ends = {"state": 0, "missing": 0, "long": 0}
        for _ in range(1500):
            steps = random_steps(rng, rng.randint(0, 6), 2)
            if rng.random() < 0.5:
                body = random_steps(rng, rng.randint(0, 3), 1) + [("set_place", "x", ("x", 1))] * rng.randint(0, 1)
                steps.insert(rng.randint(0, len(steps)), ("loop", random_conditions(rng), [], body))
            state = random_state(rng, places="xy" if rng.random() < 0.8 else "x", values="uv" if rng.random() < 0.8 else "v",
                                 arrays="ab" if rng.random() < 0.9 else "b")
            most = rng.choice([0, 1, 3, 8, 25])
            plain, program = PlainRun(state, most), Program(steps)
            try:
                plain.steps(steps)
            except Missing as found:
                ends["missing"] += 1
                self.refused(Unknown, found.args[0], run, program, state, most)
            except TooMany:
                ends["long"] += 1
                self.refused(TooLong, most, run, program, state, most)
            else:
                ends["state"] += 1
                self.assertTrue(plain.equals(run(program, state, most)), (steps, state.arrays))
            self.assertEqual(program.steps, steps)
        self.assertGreater(min(ends.values()), 100)


if __name__ == "__main__":
    unittest.main()
