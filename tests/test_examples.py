"""The examples of the interface, word for word."""

import doctest
import unittest

STATES = '''
>>> from allcells.states import State
>>> state = State({"n": 3}, {"v": 7}, {"a": [(0, 2), (1, 2), (2, 5)]})
>>> [state.arrays, state.place_of(("n", -1)), state.value_of(("a", ("n", -1), 1)), state.value_of(("", 4)), state.with_cell("a", 1, 9).arrays["a"], len(state), state == State({"n": 3}, {"v": 7}, {"a": [(2, 5), (-4, 2)]})]
[{'a': [(1, 2), (2, 5)]}, 2, 6, 4, [(0, 2), (1, 9), (2, 5)], 3, True]
'''

SAYINGS = '''
>>> from allcells.sayings import all_true, first_false, is_true, names_of, opposites, settled, terms_of, where_false
>>> from allcells.states import State
>>> rising, low = ("rising", "a", ("", 0), ("n", -1)), ("low", "a", ("", 0), ("n", -1), ("v", 0))
>>> state = State({"n": 3}, {"v": 4}, {"a": [(0, 5), (1, 6), (2, 3)]})
>>> [is_true(rising, state), first_false([("place", ("", 1), ("n", 0)), low], state), where_false(rising, state), terms_of([rising]), names_of([rising, low]), all_true([], state), settled([rising], state).arrays]
[False, 1, [(0, 2), (1, 2)], [('', 0), ('n', -1)], (['n'], ['v'], ['a']), True, {'a': [(1, 5), (2, 3)]}]
>>> opposites(low, ("i", "j"))
[[('place', ('', 0), ('i', 0)), ('place', ('i', 0), ('n', -1)), ('value', ('a', ('i', 0), 1), ('v', 0))]]
'''

DECIDE = '''
>>> from allcells.decide import clash, judge_clash, least_clashes, model, possible
>>> from allcells.sayings import all_true
>>> up = [("rising", "a", ("", 0), ("", 9)), ("value", ("a", ("", 5), 1), ("a", ("", 2), 0))]
>>> [possible(up), judge_clash(up, clash(up)), model(up), judge_clash(up, ("ring", [(("a", ("", 2)), 0, ("a", ("", 5)), ("asked", 0, [("", 2), ("", 5)])), (("a", ("", 5)), 1, ("a", ("", 2)), ("said", 1))])), least_clashes(up + [("place", ("", 1), ("", 0))])]
[False, True, None, True, [[2], [0, 1]]]
>>> high = [("high", "a", ("", 0), ("n", 0), ("", 3)), ("value", ("", 4), ("a", ("x", 0), 0))]
>>> [all_true(high, model(high)), judge_clash(high, ("ring", []))]
[True, False]
'''

FOLLOWS = '''
>>> from allcells.follows import alike, counter, first_different, first_new, follows, judge_why, needless, thinned, why_follows
>>> from allcells.sayings import is_true
>>> rising = ("rising", "a", ("", 0), ("n", -1))
>>> here = [rising, ("place", ("", 0), ("x", 0)), ("place", ("x", 0), ("y", 0)), ("place", ("y", 0), ("n", -1))]
>>> order = ("value", ("a", ("x", 0), 0), ("a", ("y", 0), 0))
>>> [follows(here, order), follows(here[:3], order), is_true(order, counter(here[:3], order)), needless(here + [order]), thinned(here + [order]) == here, alike(here, here + [order]), first_new([rising], here), judge_why(here, order, why_follows(here, order)), first_different(here, here + [order])]
[True, False, False, [4], True, True, 1, True, None]
'''

BOUNDS = '''
>>> from allcells.bounds import place_bounds, state_with, value_bounds
>>> here = [("below", "a", ("", 0), ("x", 0), "a", ("x", 1), ("n", 0), 2), ("place", ("", 0), ("x", 0)), ("place", ("x", 1), ("n", 0))]
>>> [value_bounds(here, ("a", ("x", 0), 0), ("a", ("n", 0), 0)), place_bounds(here, ("x", 0), ("n", 0)), value_bounds(here, ("a", ("", 0), 0), ("a", ("x", 0), 0)), value_bounds(here + [("place", ("n", 0), ("x", 0))], ("v", 0), ("v", 1)), state_with(here, ("a", ("x", 0), 0), ("a", ("n", 0), 0), 1)]
[(2, None), (1, None), (None, None), None, None]
'''

PROGRAMS = '''
>>> from allcells.programs import Program, run
>>> from allcells.states import State
>>> bubble = Program([("if", [("value", ("a", ("x", 1), 1), ("a", ("x", 0), 0))], [("exchange", "a", ("x", 0), ("x", 1))], [])])
>>> state = State({"x": 0}, {}, {"a": [(0, 8), (1, 3)]})
>>> [run(bubble, state, 9).arrays, len(bubble), run(Program([("copy", "a", "b", ("x", 1), ("x", 2))]), State({"x": 0}, {}, {"a": [(0, 1)], "b": [(0, 5)]}), 1).arrays["a"], len(bubble + bubble)]
[{'a': [(-1, 8), (0, 3), (1, 8), (2, 3)]}, 2, [(0, 1), (1, 5), (3, 1)], 4]
'''

GAPS = '''
>>> from allcells.programs import Program
>>> from allcells.gaps import duties, ends, first_gap, holds, judge_gap, largest_kept
>>> swap = Program([("exchange", "a", ("x", 0), ("y", 0))])
>>> ahead, behind = [("value", ("a", ("x", 0), 0), ("a", ("y", 0), 0))], [("value", ("a", ("y", 0), 0), ("a", ("x", 0), 0))]
>>> [holds(ahead, swap, behind), duties(ahead, swap, ahead), judge_gap(ahead, swap, ahead, first_gap(ahead, swap, ahead))]
[True, [('end', 0)], True]
>>> kept = [("low", "a", ("", 0), ("x", -1), ("", 0))]
>>> fill = Program([("set_place", "x", ("", 0)), ("loop", [("place", ("x", 1), ("n", 0))], kept, [("put", "a", ("x", 0), ("", 7)), ("set_place", "x", ("x", 1))])])
>>> [holds([], fill, [("low", "a", ("", 0), ("n", -1), ("", 0))]), duties([], fill, [("low", "a", ("", 0), ("n", 0), ("", 0))]), largest_kept([], fill, [("place", ("x", 0), ("", 1)), ("low", "a", ("", 0), ("x", -1), ("", 7)), ("place", ("", 0), ("x", 0))]), ends(fill, ("x", 0), ("n", -1)), ends(fill, ("", 0), ("n", 0))]
[True, [('end', 0)], [1, 2], True, False]
'''

SEEN = '''
>>> from allcells.seen import strictest_state, fitting, strongest
>>> from allcells.states import State
>>> offered = [("low", "a", ("", 0), ("", 3), ("", 0)), ("low", "a", ("", 0), ("", 3), ("", 2)), ("rising", "a", ("", 0), ("", 3))]
>>> states = [State({}, {}, {"a": [(0, 2), (2, 4)]}), State({}, {}, {"a": [(0, 3), (1, 2)]})]
>>> [fitting(offered, states), strongest(offered, states) == [offered[1]], strictest_state(offered, states), fitting(offered, [])]
[[0, 1], True, 1, [0, 1, 2]]
'''

LIVE = '''
>>> from allcells.live import LeanSheet, Sheet
>>> sheet = Sheet()
>>> [sheet(("place", ("x", 0), ("y", 0))), sheet.add_all([("rising", "a", ("x", 0), ("y", 0))]), sheet.follows(("value", ("a", ("x", 0), 0), ("a", ("y", 0), 0))), sheet.undo(), len(sheet)]
[1, 2, True, None, 1]
>>> lean = LeanSheet()
>>> [lean(("place", ("x", 0), ("y", 0))), lean(("place", ("y", 0), ("x", 3))), len(lean), lean == sheet]
[1, 2, 2, False]
'''

READINGS = '''
>>> from allcells.readings import read_saying, read_state, read_term
>>> from allcells.states import State
>>> from allcells.texts import show_saying, show_state, show_term
>>> low = ("low", "a", ("", 0), ("n", -1), ("a", ("x", 2), -3))
>>> [show_saying(low), read_saying(show_saying(low)) == low, show_saying(("same", "a", "b", None, ("n", 0), -4)), show_term(("", -7)), read_term("a[n-1]+2"), show_state(State({"n": 3}, {}, {"a": [(0, 2), (1, 4)]})), read_state("") == State({}, {}, {})]
['low a 0 n-1 a[x+2]-3', True, 'same a b .. n -4', '-7', ('a', ('n', -1), 2), 'place n=3; array a=0:2,1:4', True]
'''


class Examples(unittest.TestCase):
    def run_examples(self, text):
        test = doctest.DocTestParser().get_doctest(text, {}, "examples", None, 0)
        report = []
        result = doctest.DocTestRunner(verbose=False).run(test, out=report.append)
        self.assertGreater(result.attempted, 2)
        self.assertEqual(result.failed, 0, "".join(report))

    def test_states(self):
        self.run_examples(STATES)

    def test_sayings(self):
        self.run_examples(SAYINGS)

    def test_decide(self):
        self.run_examples(DECIDE)

    def test_follows(self):
        self.run_examples(FOLLOWS)

    def test_bounds(self):
        self.run_examples(BOUNDS)

    def test_programs(self):
        self.run_examples(PROGRAMS)

    def test_gaps(self):
        self.run_examples(GAPS)

    def test_seen(self):
        self.run_examples(SEEN)

    def test_live(self):
        self.run_examples(LIVE)

    def test_texts_and_readings(self):
        self.run_examples(READINGS)


if __name__ == "__main__":
    unittest.main()
