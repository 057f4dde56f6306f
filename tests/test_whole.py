"""[2], [3] and [9] over all modules together."""

import copy
import random
import unittest

from allcells import bounds, decide, errors, follows, gaps, live, programs, readings, sayings, seen, states, texts
from allcells.errors import Contradiction, InvalidName, InvalidSaying, InvalidStep, InvalidTerm, NothingToUndo, Unknown
from allcells.errors import Needless, InvalidRow, TooLong, Unreadable
from allcells.live import LeanSheet, Sheet
from allcells.programs import Program
from allcells.states import State
from oracle import all_new, lists_in, plainly_true, random_saying, random_state
from refusing import Refusing
from test_language import INTERFACE

X, Y, ZERO = ("x", 0), ("y", 0), ("", 0)
RISING = ("rising", "a", X, Y)
CELLS = ("value", ("a", X, 0), ("a", Y, 0))
ORDER = ("place", X, Y)
FALLS = ("value", ("a", Y, 1), ("a", X, 0))
NONE = ("low", ["a"], X, Y, ("v", 0))
SAME = ("same", "a", "b", X, Y, 2)


def state():
    return State({"x": 1, "y": 4}, {"v": 3}, {"a": [(0, 5), (2, 6), (4, 3)], "b": [(0, 1)]})


def swap():
    return Program([("exchange", "a", X, Y)])


def loop():
    return Program([("set_place", "x", ZERO), ("loop", [("place", ("x", 1), Y)], [("place", ZERO, X)],
                                               [("put", "a", X, ("v", 0)), ("set_place", "x", ("x", 1))])])


def ring():
    return ("ring", [(("a", X), 0, ("a", Y), ("asked", 0, [X, Y])), (("a", Y), 1, ("a", X), ("said", 2))])


def cases():
    """Of each function of the interface at least one call: its name, and its arguments by name."""
    return [
        (states.State, {"places": {"x": 1}, "numbers": {"v": 2}, "arrays": {"a": [(3, 4), (1, 2)]}}),
        (sayings.checked, {"saying": RISING}),
        (sayings.terms_of, {"sayings": [RISING, CELLS]}),
        (sayings.names_of, {"sayings": [RISING, CELLS]}),
        (sayings.is_true, {"saying": RISING, "state": state()}),
        (sayings.all_true, {"sayings": [ORDER, RISING], "state": state()}),
        (sayings.first_false, {"sayings": [ORDER, RISING], "state": state()}),
        (sayings.where_false, {"saying": RISING, "state": state()}),
        (sayings.settled, {"sayings": [RISING], "state": state()}),
        (sayings.opposites, {"saying": SAME, "fresh": ("i", "j")}),
        (decide.possible, {"sayings": [RISING, ORDER, FALLS]}),
        (decide.model, {"sayings": [RISING, ORDER]}),
        (decide.clash, {"sayings": [RISING, ORDER, FALLS, ORDER]}),
        (decide.judge_clash, {"sayings": [RISING, ORDER, FALLS], "told": ring()}),
        (decide.least_clashes, {"sayings": [RISING, ORDER, FALLS, ORDER]}),
        (follows.follows, {"sayings": [RISING, ORDER], "saying": CELLS}),
        (follows.counter, {"sayings": [RISING], "saying": CELLS}),
        (follows.why_follows, {"sayings": [SAME], "saying": ("same", "b", "a", X, Y, -2)}),
        (follows.judge_why, {"sayings": [RISING, ORDER], "saying": CELLS, "told": [ring()]}),
        (follows.first_different, {"one": [ORDER], "other": [RISING, ORDER]}),
        (follows.needless, {"sayings": [RISING, ORDER, CELLS]}),
        (follows.thinned, {"sayings": [RISING, ORDER, CELLS]}),
        (follows.alike, {"one": [RISING, ORDER], "other": [CELLS, RISING, ORDER]}),
        (follows.first_new, {"one": [RISING], "other": [RISING, CELLS, ORDER]}),
        (bounds.value_bounds, {"sayings": [RISING, ORDER], "u": ("a", X, 0), "v": ("a", Y, 3)}),
        (bounds.place_bounds, {"sayings": [ORDER], "p": X, "q": ("y", -2)}),
        (bounds.state_with, {"sayings": [RISING, ORDER], "u": ("a", X, 0), "v": ("a", Y, 3), "number": 7}),
        (programs.Program, {"steps": loop().steps}),
        (programs.run, {"program": loop(), "state": state(), "most": 60}),
        (gaps.holds, {"ahead": [FALLS], "program": swap(), "behind": [CELLS]}),
        (gaps.duties, {"ahead": [FALLS], "program": swap(), "behind": [CELLS, FALLS]}),
        (gaps.largest_kept, {"ahead": [], "program": loop(), "offered": [("place", ZERO, X), ORDER]}),
        (gaps.ends, {"program": loop(), "p": X, "q": Y}),
        (gaps.first_gap, {"ahead": [FALLS], "program": swap(), "behind": [FALLS]}),
        (gaps.judge_gap, {"ahead": [], "program": swap(), "behind": [CELLS], "told": ("end", 0, state())}),
        (seen.fitting, {"sayings": [RISING, ORDER], "states": [state()]}),
        (seen.strongest, {"sayings": [ORDER, ("place", X, ("y", 1))], "states": [state()]}),
        (seen.strictest_state, {"sayings": [RISING, ORDER], "states": [state(), state()]}),
        (texts.show_term, {"term": ("a", ("x", 2), -3)}),
        (texts.show_saying, {"saying": SAME}),
        (texts.show_state, {"state": state()}),
        (readings.read_term, {"text": "a[x+2]-3"}),
        (readings.read_saying, {"text": "same a b x y 2"}),
        (readings.read_state, {"text": "place x=1; array a=0:2,1:4"}),
    ]


def plain(value):
    """A value in which states and programs are what their properties tell."""
    if isinstance(value, State):
        return ("State", value.places, value.numbers, value.arrays)
    if isinstance(value, Program):
        return ("Program", value.steps)
    if isinstance(value, Sheet):
        return ("Sheet", value.sayings)
    if isinstance(value, (list, tuple)):
        return type(value)([plain(part) for part in value])
    return {key: plain(value[key]) for key in value} if isinstance(value, dict) else value


def spoil(value):
    """Empties all lists in a value."""
    for each in lists_in(value):
        each.clear()


class General(unittest.TestCase):
    def test_each_function_is_called(self):
        called = {f"{call.__module__}.{call.__name__}" for call, _ in cases()}
        told = {f"allcells.{module}.{word.partition('(')[0]}" for module, words in INTERFACE.items() for word in words.split()}
        self.assertEqual({name for name in told - called if ".errors." not in name}, {"allcells.live.Sheet", "allcells.live.LeanSheet"})
        self.assertEqual(called - told, set())

    def test_by_position_and_by_name(self):
        for call, given in cases():
            result = plain(call(*given.values()))
            self.assertEqual(repr(plain(call(**dict(reversed(list(given.items())))))), repr(result), call)

    def test_nothing_passed_is_modified(self):
        for call, given in cases():
            before = repr(plain(given))
            call(**given)
            self.assertEqual(repr(plain(given)), before, call)

    def test_what_is_returned_is_new(self):
        for call, given in cases():
            first, second = call(**given), call(**given)
            self.assertTrue(all_new([first], [second, given]), call)
            if isinstance(first, tuple):
                self.assertTrue(all_new(list(first), list(second)), call)

    def test_what_is_returned_may_be_changed(self):
        """Neither the arguments nor later answers depend on lists that were returned."""
        for call, given in cases():
            before, wanted = repr(plain(given)), repr(plain(call(**given)))
            spoil(call(**given))
            spoil(plain(call(**given)))
            self.assertEqual(repr(plain(given)), before, call)
            self.assertEqual(repr(plain(call(**given))), wanted, call)

    def test_no_reference_to_what_was_passed(self):
        arrays, steps = {"a": [(0, 1)]}, [("if", [ORDER], [("put", "a", X, ZERO)], [])]
        made, program, sheet, said = State({"x": 1}, {}, arrays), Program(steps), Sheet(), [ORDER]
        sheet.add_all(said)
        both = program + program
        wanted = repr(plain([made, program, both, sheet]))
        for given in (list(arrays.values()), steps, said):
            spoil(given)
        arrays.clear()
        self.assertEqual(repr(plain([made, program, both, sheet])), wanted)

    def test_states_and_programs_never_change(self):
        here, program = state(), loop()
        wanted = repr(plain([here, program]))
        here.with_cell("a", 2, 9)
        sayings.settled([RISING], here)
        programs.run(program, here, 400)
        program.then(swap())
        spoil([here.arrays, program.steps])
        here.places.clear()
        self.assertEqual(repr(plain([here, program])), wanted)

    def test_the_same_answer_again(self):
        """No call depends on those before it."""
        wanted = [repr(plain(call(**given))) for call, given in cases()]
        again = [repr(plain(call(**given))) for call, given in reversed(cases())]
        self.assertEqual(again[::-1], wanted)


class Errors(Refusing):
    def test_what_is_no_statement(self):
        """Each function with statements, at each place for a list or a statement."""
        count = 0
        for call, given in cases():
            for name in given:
                many = name in ("sayings", "one", "other", "ahead", "behind", "offered")
                if not many and name != "saying" or call is texts.show_saying:
                    continue
                count += 1
                for kind, value, wrong in [(InvalidName, ["a"], NONE), (InvalidSaying, ("place", [X, [Y]]), ("place", [X, [Y]])),
                                           (InvalidTerm, ["x", 0], ("place", ["x", 0], None)), (InvalidSaying, [[]], [[]]),
                                           (InvalidSaying, ("same", "a", "b", X, Y, True), ("same", "a", "b", X, Y, True))]:
                    taken = dict(given)
                    taken[name] = taken[name] + [wrong, None] if many else wrong
                    before = repr(plain(taken))
                    self.refused(kind, value, call, *taken.values())
                    self.assertEqual(repr(plain(taken)), before)
        self.assertEqual(count, 46)

    def test_lists_ahead_of_each_other(self):
        for call, given in cases():
            pair = [name for name in given if name in ("sayings", "saying", "one", "other", "ahead", "behind", "offered")]
            if len(pair) == 2:
                taken = dict(given)
                for name, wrong in zip(pair, [("place", X), NONE]):
                    taken[name] = wrong if name == "saying" else [ORDER, wrong]
                self.refused(InvalidSaying, ("place", X), call, *taken.values())

    def test_each_other_error(self):
        told = [Needless, Contradiction, NothingToUndo, Unknown, TooLong, InvalidRow, InvalidStep, InvalidName, Unreadable, InvalidTerm]
        lean = LeanSheet()
        lean(ORDER)
        for kind, value, call, given in [
            (InvalidName, "", State, ({}, {"": 1}, {})),
            (InvalidRow, [(0, 1), (0, 1)], State, ({}, {}, {"a": [(0, 1), (0, 1)]})),
            (Unknown, "z", state().place_of, (("z", 0),)),
            (Unknown, "c", state().value_of, (("c", ("z", 0), 0),)),
            (Unknown, "c", state().with_cell, ("c", 0, 0)),
            (Unknown, "w", sayings.settled, ([("value", ("w", 0), ZERO)], state())),
            (InvalidTerm, (["v"], 0), bounds.value_bounds, ([], (["v"], 0), X)),
            (InvalidTerm, None, bounds.place_bounds, ([], X, None)),
            (InvalidStep, ("put", ["a"], X), Program, ([("put", ["a"], X)],)),
            (TooLong, 3, programs.run, (loop(), state(), 3)),
            (InvalidTerm, ("x", [0]), gaps.ends, (loop(), ("x", [0]), None)),
            (Unknown, "y", seen.fitting, ([ORDER], [state(), State({"x": 1}, {}, {})])),
            (Contradiction, [0, 1], lean, (("place", ("y", 1), X),)),
            (Needless, ORDER, lean, (ORDER,)),
            (NothingToUndo, 0, Sheet().undo, ()),
            (Unreadable, "x+0", readings.read_term, ("x+0",)),
            (Unreadable, "place x", readings.read_saying, ("place x",)),
            (Unreadable, "place x", readings.read_state, ("place x",)),
        ]:
            self.refused(kind, value, call, *given)
            told = [other for other in told if other is not kind]
        self.assertEqual(told, [])
        self.assertEqual(lean.sayings, [ORDER])
        self.assertEqual(errors.CellError.__bases__, (ValueError,))

    def test_lists_in_errors_may_be_changed(self):
        wrong = ("low", ["a", ["b"]], X, Y, ("v", 0))
        for call, given in [(sayings.checked, (wrong,)), (decide.model, ([wrong],)), (Program, ([("loop", [], [wrong], [])],))]:
            before = copy.deepcopy(given)
            for _ in range(2):
                with self.assertRaises(InvalidName) as caught:
                    call(*given)
                self.assertEqual(caught.exception.value, ["a", ["b"]])
                spoil(caught.exception.value)
                self.assertEqual(given, before)


class Together(unittest.TestCase):
    """What one module returns is passed to the others."""

    def test_states_that_are_returned(self):
        rng = random.Random(90)
        for _ in range(40):
            here = [random_saying(rng, [X, Y, ZERO], size=10 ** rng.choice([0, 2]), open_ends=0.3) for _ in range(4)]
            found = decide.model(here)
            if found is None:
                continue
            self.assertEqual(seen.fitting(here, [found]), [0, 1, 2, 3])
            self.assertEqual(seen.strictest_state(here, [found, found]), 0)
            self.assertTrue(readings.read_state(texts.show_state(found)) == found)
            self.assertTrue(State(found.places, found.numbers, found.arrays) == found)
            lean = LeanSheet()
            self.assertEqual(lean.add_all(seen.strongest(here, [found])), len(lean))
            self.assertTrue(follows.alike(lean.sayings, here))
            self.assertEqual(len(lean.model()), len([name for names in sayings.names_of(lean.sayings) for name in names]))

    def test_what_follows_is_true_in_states_that_fit(self):
        rng = random.Random(91)
        followed = 0
        for _ in range(60):
            offered = [random_saying(rng, [X, ("x", 1), Y], size=1) for _ in range(5)]
            here = [random_state(rng) for _ in range(3)]
            fit = seen.fitting(offered, here)
            left = seen.strongest(offered, here)
            for index, saying in enumerate(offered):
                if follows.follows(left, saying):
                    followed += 1
                    self.assertIn(index, fit)
                    self.assertTrue(all(plainly_true(saying, each) for each in here))
                else:
                    self.assertNotIn(index, fit)
        self.assertGreater(followed, 60)

    def test_statements_that_are_read(self):
        here = [readings.read_saying(text) for text in ("rising a 0 n-1", "place 0 x", "place x y", "place y n-1")]
        order = readings.read_saying("value a[x] a[y]")
        self.assertTrue(follows.follows(here, order))
        self.assertFalse(follows.follows(here[:3], order))
        sheet = Sheet()
        self.assertEqual(sheet.add_all(here), 4)
        self.assertTrue(sheet.follows(order))
        found = readings.read_state("place n=3; place x=0; place y=1; array a=0:2,1:4")
        self.assertEqual(seen.fitting(here + [order], [found]), [0, 1, 2, 3, 4])

    def test_sheets_and_lists(self):
        """A sheet says of its list what the functions say."""
        rng = random.Random(92)
        for _ in range(40):
            sheet, said = Sheet(), []
            for _ in range(4):
                saying = random_saying(rng, [X, Y], size=1)
                least = decide.least_clashes(said + [saying])
                if least:
                    with self.assertRaises(Contradiction) as caught:
                        sheet(saying)
                    self.assertEqual(caught.exception.value, least[0])
                    self.assertIsNotNone(decide.clash(said + [saying]))
                else:
                    said.append(saying)
                    self.assertEqual(sheet(saying), len(said))
            self.assertTrue(sayings.all_true(said, sheet.model()))
            other = random_saying(rng, [X, Y], size=1)
            self.assertIs(sheet.follows(other), follows.why_follows(said, other) is not None)


if __name__ == "__main__":
    unittest.main()
