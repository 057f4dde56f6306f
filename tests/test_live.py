"""The section of live.py, [2], [3], [5], [6] and [9]."""

import random
import unittest

from allcells.decide import least_clashes, possible
from allcells.errors import CellError, Contradiction, InvalidName, InvalidSaying, InvalidTerm, Needless, NothingToUndo
from allcells.follows import follows
from allcells.live import LeanSheet, Sheet
from allcells.sayings import all_true, is_true, names_of
from allcells.states import State
from oracle import all_new, random_saying
from refusing import Refusing

X, Y, Z, ZERO = ("x", 0), ("y", 0), ("z", 0), ("", 0)
ORDER = ("place", X, Y)
BACK = ("place", ("y", 1), X)
RISING = ("rising", "a", X, Y)
CELLS = ("value", ("a", X, 0), ("a", Y, 0))
FALSE = ("value", ("", 1), ZERO)
KINDS = (Sheet, LeanSheet)


def filled(kind, sayings):
    sheet = kind()
    for saying in sayings:
        sheet(saying)
    return sheet


class Sheets(Refusing):
    def check(self, sheet, sayings):
        """A sheet has just these statements."""
        self.assertEqual(sheet.sayings, sayings)
        self.assertEqual(len(sheet), len(sayings))
        state = sheet.model()
        self.assertIsInstance(state, State)
        self.assertTrue(all_true(sayings, state))
        self.assertEqual((sorted(state.places), sorted(state.numbers), sorted(state.arrays)), names_of(sayings))

    def refused_by(self, sheet, kind, value, call, *given):
        """The error is raised, and the sheet is as before."""
        before = sheet.sayings
        self.refused(kind, value, call, *given)
        self.check(sheet, before)


class Adding(Sheets):
    def test_new_sheets(self):
        for kind in KINDS:
            self.check(kind(), [])
            one, other = kind(), kind()
            one(ORDER)
            self.check(other, [])
            self.check(kind(), [])

    def test_the_number_of_statements(self):
        for kind in KINDS:
            sheet = kind()
            self.assertEqual(sheet(ORDER), 1)
            self.assertEqual(sheet(saying=RISING), 2)
            self.check(sheet, [ORDER, RISING])
            self.assertEqual(sheet.add_all([("low", "a", X, Y, ZERO), ("high", "a", X, Y, ("v", 0))]), 4)
            self.assertEqual(sheet.add_all(sayings=[("place", ZERO, X)]), 5)
            self.check(sheet, [ORDER, RISING, ("low", "a", X, Y, ZERO), ("high", "a", X, Y, ("v", 0)), ("place", ZERO, X)])

    def test_an_empty_list(self):
        for kind in KINDS:
            sheet = kind()
            self.assertEqual(sheet.add_all([]), 0)
            sheet(ORDER)
            self.assertEqual(sheet.add_all([]), 1)
            self.check(sheet, [ORDER])

    def test_a_sheet_takes_what_follows(self):
        sheet = filled(Sheet, [ORDER, RISING, CELLS, CELLS, ("place", X, X)])
        self.check(sheet, [ORDER, RISING, CELLS, CELLS, ("place", X, X)])

    def test_what_is_no_statement(self):
        for kind in KINDS:
            for start in ([], [ORDER, RISING]):
                sheet = filled(kind, start)
                for call in (sheet, lambda saying: sheet.add_all([saying])):
                    self.refused_by(sheet, InvalidSaying, ("place", X), call, ("place", X))
                    self.refused_by(sheet, InvalidSaying, [["place"], X, Y], call, [["place"], X, Y])
                    self.refused_by(sheet, InvalidTerm, ["y", 0], call, ("place", X, ["y", 0]))
                    self.refused_by(sheet, InvalidTerm, None, call, ("place", None, Y))
                    self.refused_by(sheet, InvalidName, ["a"], call, ("low", ["a"], X, Y, ("", True)))
                    self.refused_by(sheet, InvalidSaying, None, call, None)


class Contradictions(Sheets):
    def test_alone(self):
        for kind in KINDS:
            sheet = kind()
            self.refused_by(sheet, Contradiction, [0], sheet, FALSE)
            self.refused_by(sheet, Contradiction, [0], sheet.add_all, [FALSE])
            sheet(ORDER)
            self.refused_by(sheet, Contradiction, [1], sheet, FALSE)

    def test_with_some_of_those_before(self):
        for kind in KINDS:
            sheet = filled(kind, [("place", ZERO, X), ORDER, RISING])
            self.refused_by(sheet, Contradiction, [1, 3], sheet, BACK)
            self.refused_by(sheet, Contradiction, [0, 3], sheet, ("place", X, ("", -1)))
            self.refused_by(sheet, Contradiction, [1, 2, 3], sheet, ("value", ("a", Y, 1), ("a", X, 0)))
            self.refused_by(sheet, Contradiction, [0, 1, 3], sheet, ("place", Y, ("", -1)))
            self.assertEqual(sheet(("place", Y, ("", 5))), 4)

    def test_the_first_of_the_least_lists(self):
        """Shorter lists come first, and of equally long ones the lesser one."""
        sheet = filled(Sheet, [("place", X, Z), ("place", Z, Y), ORDER])
        self.refused_by(sheet, Contradiction, [2, 3], sheet, BACK)
        sheet.undo()
        self.refused_by(sheet, Contradiction, [0, 1, 2], sheet, BACK)
        sheet = filled(Sheet, [ORDER, ("place", ("x", 1), Y), ORDER])
        self.refused_by(sheet, Contradiction, [0, 3], sheet, BACK)
        self.refused_by(sheet, Contradiction, [1, 3], sheet, ("place", Y, X))

    def test_beside_least_clashes(self):
        rng = random.Random(80)
        refusals = 0
        for _ in range(150):
            terms = rng.choice([[ZERO, X], [X, Y], [X, ("x", 1), Y]])
            sheet = Sheet()
            for _ in range(6):
                saying = random_saying(rng, terms, size=1, words=("place", "value", "rising", "low", "high", "below"))
                together = sheet.sayings + [saying]
                if len(sheet) < 5 and possible(together):
                    self.assertEqual(sheet(saying), len(together))
                    self.assertEqual(sheet.sayings, together)
                elif not possible(together):
                    self.refused_by(sheet, Contradiction, least_clashes(together)[0], sheet, saying)
                    self.refused_by(sheet, Contradiction, least_clashes(together)[0], sheet.add_all, [saying, None])
                    refusals += 1
        self.assertGreater(refusals, 20)

    def test_taken_later(self):
        for kind in KINDS:
            sheet = filled(kind, [("place", ZERO, X), ORDER])
            self.refused_by(sheet, Contradiction, [1, 2], sheet, BACK)
            sheet.undo()
            self.assertEqual(sheet(BACK), 2)
            self.refused_by(sheet, Contradiction, [1, 2], sheet, ORDER)
            self.check(sheet, [("place", ZERO, X), BACK])


class AddingAll(Sheets):
    def test_all_or_none(self):
        for kind in KINDS:
            sheet = filled(kind, [ORDER])
            for at in range(3):
                for kind_of, value, wrong in [(InvalidSaying, ("place", X), ("place", X)), (InvalidTerm, 0, ("place", 0, Y)),
                                              (Contradiction, [0, at + 1], BACK), (Contradiction, [at + 1], FALSE)]:
                    sayings = [("place", ZERO, X), RISING]
                    sayings.insert(at, wrong)
                    self.refused_by(sheet, kind_of, value, sheet.add_all, sayings)
            self.assertEqual(sheet.add_all([("place", ZERO, X), RISING]), 3)

    def test_the_first_that_raises_an_error(self):
        for kind in KINDS:
            sheet = filled(kind, [ORDER])
            self.refused_by(sheet, Contradiction, [0, 2], sheet.add_all, [RISING, BACK, ("place", X), None])
            self.refused_by(sheet, InvalidSaying, ("place", X), sheet.add_all, [RISING, ("place", X), BACK])
            self.refused_by(sheet, InvalidTerm, X + X, sheet.add_all, [("place", X + X, Y), ("place", X)])

    def test_contradictions_within_the_list(self):
        for kind in KINDS:
            sheet = filled(kind, [RISING])
            self.refused_by(sheet, Contradiction, [1, 2], sheet.add_all, [ORDER, BACK])
            self.refused_by(sheet, Contradiction, [0, 1, 2], sheet.add_all, [ORDER, ("value", ("a", Y, 1), ("a", X, 0))])
            self.check(sheet, [RISING])

    def test_one_after_the_other(self):
        for kind in KINDS:
            sheet, other = kind(), kind()
            sayings = [ORDER, RISING, ("place", ZERO, X), ("low", "a", X, X, ZERO)]
            self.assertEqual([other(saying) for saying in sayings], [1, 2, 3, 4])
            self.assertEqual(sheet.add_all(sayings), 4)
            self.assertTrue(sheet == other)

    def test_the_list_is_not_kept(self):
        for kind in KINDS:
            sheet, sayings = kind(), [ORDER, RISING]
            sheet.add_all(sayings)
            sayings.append(FALSE)
            self.check(sheet, [ORDER, RISING])
            sheet(("place", ZERO, X))
            self.assertEqual(sayings, [ORDER, RISING, FALSE])


class Undoing(Sheets):
    def test_after_calls_and_lists(self):
        for kind in KINDS:
            sheet = filled(kind, [ORDER])
            sheet.add_all([RISING, ("place", ZERO, X)])
            sheet(("place", Y, ("", 9)))
            for left in ([ORDER, RISING, ("place", ZERO, X)], [ORDER, RISING], [ORDER], []):
                self.assertIs(sheet.undo(), None)
                self.check(sheet, left)

    def test_nothing_to_undo(self):
        for kind in KINDS:
            sheet = kind()
            self.refused_by(sheet, NothingToUndo, 0, sheet.undo)
            sheet(ORDER)
            sheet.undo()
            for _ in range(2):
                self.refused_by(sheet, NothingToUndo, 0, sheet.undo)
            sheet.add_all([])
            self.refused_by(sheet, NothingToUndo, 0, sheet.undo)
            self.assertEqual(sheet(RISING), 1)

    def test_refused_ones_are_not_taken_back(self):
        for kind in KINDS:
            sheet = filled(kind, [RISING, ORDER])
            with self.assertRaises(CellError):
                sheet(BACK)
            with self.assertRaises(CellError):
                sheet.add_all([("place", ZERO, X), BACK])
            sheet.undo()
            self.check(sheet, [RISING])

    def test_a_hundred(self):
        for kind in KINDS:
            sheet = kind()
            for at in range(100):
                self.assertEqual(sheet(("place", X, ("", at))), 1)
                sheet.undo()
            self.check(sheet, [])


class Asking(Sheets):
    def test_follows(self):
        for kind in KINDS:
            sheet = kind()
            self.assertIs(sheet.follows(CELLS), False)
            self.assertIs(sheet.follows(("place", X, X)), True)
            sheet(ORDER)
            self.assertIs(sheet.follows(CELLS), False)
            self.assertIs(sheet.follows(ORDER), True)
            sheet(RISING)
            self.assertIs(sheet.follows(CELLS), True)
            self.assertIs(sheet.follows(saying=("value", ("a", X, 1), ("a", Y, 0))), False)
            self.assertIs(sheet.follows(FALSE), False)
            sheet.undo()
            self.assertIs(sheet.follows(CELLS), False)
            self.check(sheet, [ORDER])

    def test_follows_with_what_is_no_statement(self):
        for kind in KINDS:
            sheet = filled(kind, [ORDER])
            self.refused_by(sheet, InvalidSaying, 3, sheet.follows, 3)
            self.refused_by(sheet, InvalidTerm, ("x",), sheet.follows, ("place", ("x",), Y))

    def test_follows_as_the_function(self):
        rng = random.Random(81)
        answers = []
        for _ in range(60):
            sayings = [random_saying(rng, [X, Y], size=1) for _ in range(4)]
            sheet = Sheet()
            for saying in sayings[:3]:
                if possible(sheet.sayings + [saying]):
                    sheet(saying)
            self.assertIs(sheet.follows(sayings[3]), follows(sheet.sayings, sayings[3]))
            answers.append(sheet.follows(sayings[3]))
            self.assertTrue(all_true(sheet.sayings, sheet.model()))
        self.assertGreater(min(answers.count(True), answers.count(False)), 5)

    def test_model(self):
        for kind in KINDS:
            sheet = kind()
            self.assertTrue(sheet.model() == State({}, {}, {}))
            sheet.add_all([("place", ("x", 3), Y), ("value", ("v", 1), ("a", X, 0))])
            state = sheet.model()
            self.assertTrue(state.place_of(("x", 3)) <= state.place_of(Y))
            self.assertEqual([sorted(state.places), sorted(state.numbers), sorted(state.arrays)], [["x", "y"], ["v"], ["a"]])
            self.assertTrue(is_true(("value", ("v", 1), ("a", X, 0)), state))

    def test_new_lists_each_time(self):
        for kind in KINDS:
            sheet = filled(kind, [ORDER, RISING])
            first, second = sheet.sayings, sheet.sayings
            self.assertIs(type(first), list)
            self.assertTrue(all_new([first], [second]))
            first.append(FALSE)
            second.clear()
            self.check(sheet, [ORDER, RISING])
            sheet.undo()
            sheet(("place", ZERO, X))
            self.assertEqual(first, [ORDER, RISING, FALSE])

    def test_a_list_in_an_error_is_new(self):
        sheet = filled(Sheet, [ORDER])
        values = []
        for _ in range(2):
            with self.assertRaises(Contradiction) as caught:
                sheet(BACK)
            values.append(caught.exception.value)
        self.assertTrue(all_new(values))
        values[0].append(7)
        self.assertEqual(values[1], [0, 1])

    def test_sayings_cannot_be_put(self):
        sheet = Sheet()
        with self.assertRaises(AttributeError):
            sheet.sayings = [ORDER]


class Equal(unittest.TestCase):
    def same(self, one, other, answer):
        self.assertIs(one == other, answer)
        self.assertIs(other == one, answer)
        self.assertIs(one != other, not answer)
        self.assertIs(other != one, not answer)

    def test_alike(self):
        for kind in KINDS:
            self.same(kind(), kind(), True)
            self.same(filled(kind, [ORDER, RISING]), filled(kind, [ORDER, RISING]), True)
            one = filled(kind, [ORDER])
            self.same(one, one, True)
            other = filled(kind, [ORDER, RISING])
            self.same(one, other, False)
            other.undo()
            self.same(one, other, True)

    def test_different(self):
        for kind in KINDS:
            self.same(filled(kind, [ORDER, RISING]), filled(kind, [RISING, ORDER]), False)
            self.same(filled(kind, [ORDER]), kind(), False)
            self.same(filled(kind, [ORDER]), filled(kind, [BACK]), False)
            self.same(filled(kind, [("place", X, Y)]), filled(kind, [("value", X, Y)]), False)

    def test_lists_that_say_the_same(self):
        self.same(filled(Sheet, [ORDER]), filled(Sheet, [("place", ("x", 1), ("y", 1))]), False)
        self.same(filled(Sheet, [ORDER, ORDER]), filled(Sheet, [ORDER]), False)

    def test_lean_sheets_and_others(self):
        for sayings in ([], [ORDER], [ORDER, RISING]):
            self.same(filled(LeanSheet, sayings), filled(Sheet, sayings), False)
            one, other = filled(Sheet, sayings), filled(LeanSheet, sayings)
            self.assertIs(one.__eq__(other), False)
            self.assertIs(other.__eq__(one), False)

    def test_other_values(self):
        for kind in KINDS:
            for sayings in ([], [ORDER]):
                sheet = filled(kind, sayings)
                for other in (sayings, tuple(sayings), None, 0, len(sayings), "", State({}, {}, {}), kind, [sheet], False):
                    self.same(sheet, other, False)

    def test_subclass(self):
        self.assertTrue(issubclass(LeanSheet, Sheet))
        self.assertEqual(LeanSheet.__bases__, (Sheet,))
        self.assertIsInstance(LeanSheet(), Sheet)
        for name in ("__call__", "add_all", "__eq__"):
            self.assertIn(name, vars(LeanSheet))


class Lean(Sheets):
    def test_what_follows_is_refused(self):
        sheet = filled(LeanSheet, [ORDER, RISING])
        for saying in (CELLS, ORDER, RISING, ("place", X, ("y", 1)), ("place", Z, Z), ("same", "b", "b", None, None, 0)):
            self.refused_by(sheet, Needless, saying, sheet, saying)
            self.refused_by(sheet, Needless, saying, sheet.add_all, [saying])
        self.assertEqual(sheet(("place", ("x", 1), Y)), 3)

    def test_an_empty_sheet(self):
        sheet = LeanSheet()
        self.refused_by(sheet, Needless, ("value", ZERO, ZERO), sheet, ("value", ZERO, ZERO))
        self.refused_by(sheet, Needless, ("place", X, X), sheet, ("place", X, X))
        self.assertEqual(sheet(ORDER), 1)

    def test_earlier_ones_may_come_to_follow(self):
        sheet = LeanSheet()
        self.assertEqual([sheet(ORDER), sheet(("place", ("x", 1), Y)), sheet(("place", ("x", 2), Y))], [1, 2, 3])
        self.check(sheet, [ORDER, ("place", ("x", 1), Y), ("place", ("x", 2), Y)])

    def test_checked_last(self):
        sheet = filled(LeanSheet, [ORDER])
        self.refused_by(sheet, InvalidSaying, ("place", X, Y, Z), sheet, ("place", X, Y, Z))
        self.refused_by(sheet, Contradiction, [1], sheet, FALSE)
        self.refused_by(sheet, Contradiction, [0, 1], sheet, BACK)
        self.refused_by(sheet, Needless, ORDER, sheet.add_all, [RISING, ORDER, BACK, None])
        self.refused_by(sheet, Contradiction, [0, 2], sheet.add_all, [RISING, BACK, ORDER])

    def test_add_all_looks_at_those_of_the_list(self):
        sheet = LeanSheet()
        self.refused_by(sheet, Needless, CELLS, sheet.add_all, [ORDER, RISING, CELLS])
        self.refused_by(sheet, Needless, ORDER, sheet.add_all, [ORDER, ORDER])
        self.assertEqual(sheet.add_all([CELLS, ORDER, RISING]), 3)
        self.check(sheet, [CELLS, ORDER, RISING])

    def test_taken_later(self):
        sheet = filled(LeanSheet, [ORDER, RISING])
        self.refused_by(sheet, Needless, CELLS, sheet, CELLS)
        sheet.undo()
        self.assertEqual(sheet(CELLS), 2)
        self.refused_by(sheet, Needless, CELLS, sheet, CELLS)
        self.assertEqual(sheet(RISING), 3)

    def test_none_follows_from_those_before(self):
        rng = random.Random(82)
        counts = {"taken": 0, Needless: 0, Contradiction: 0}
        for _ in range(100):
            sheet = LeanSheet()
            for _ in range(6):
                before = sheet.sayings
                saying = random_saying(rng, [X, Y, ZERO][: rng.randint(2, 3)], size=1)
                if len(before) == 5:
                    sheet.undo()
                    continue
                try:
                    self.assertEqual(sheet(saying), len(before) + 1)
                    counts["taken"] += 1
                    self.assertTrue(possible(sheet.sayings))
                    self.assertFalse(follows(before, saying))
                except CellError as error:
                    counts[type(error)] += 1
                    self.assertIs(follows(before, saying) and possible(before + [saying]), type(error) is Needless)
                    self.assertEqual(sheet.sayings, before)
        self.assertGreater(min(counts.values()), 15)


if __name__ == "__main__":
    unittest.main()
