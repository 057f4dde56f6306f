"""The examples of the interface, word for word."""

import doctest
import unittest

STATES = '''
>>> from allcells.states import State
>>> state = State({"n": 3}, {"v": 7}, {"a": [(0, 2), (1, 2), (2, 5)]})
>>> [state.arrays, state.place_of(("n", -1)), state.value_of(("a", ("n", -1), 1)), state.value_of(("", 4)), state.with_cell("a", 1, 9).arrays["a"], len(state), state == State({"n": 3}, {"v": 7}, {"a": [(2, 5), (-4, 2)]})]
[{'a': [(1, 2), (2, 5)]}, 2, 6, 4, [(0, 2), (1, 9), (2, 5)], 3, True]
'''

SAYINGS = '''
>>> from allcells.sayings import all_true, first_false, is_true, names_of, opposites, settled, terms_of, where_false
>>> from allcells.states import State
>>> rising, low = ("rising", "a", ("", 0), ("n", -1)), ("low", "a", ("", 0), ("n", -1), ("v", 0))
>>> state = State({"n": 3}, {"v": 4}, {"a": [(0, 5), (1, 6), (2, 3)]})
>>> [is_true(rising, state), first_false([("place", ("", 1), ("n", 0)), low], state), where_false(rising, state), terms_of([rising]), names_of([rising, low]), all_true([], state), settled([rising], state).arrays]
[False, 1, [(0, 2), (1, 2)], [('', 0), ('n', -1)], (['n'], ['v'], ['a']), True, {'a': [(1, 5), (2, 3)]}]
>>> opposites(low, ("i", "j"))
[[('place', ('', 0), ('i', 0)), ('place', ('i', 0), ('n', -1)), ('value', ('a', ('i', 0), 1), ('v', 0))]]
'''

DECIDE = '''
>>> from allcells.decide import clash, judge_clash, least_clashes, model, possible
>>> from allcells.sayings import all_true
>>> up = [("rising", "a", ("", 0), ("", 9)), ("value", ("a", ("", 5), 1), ("a", ("", 2), 0))]
>>> [possible(up), judge_clash(up, clash(up)), model(up), judge_clash(up, ("ring", [(("a", ("", 2)), 0, ("a", ("", 5)), ("asked", 0, [("", 2), ("", 5)])), (("a", ("", 5)), 1, ("a", ("", 2)), ("said", 1))])), least_clashes(up + [("place", ("", 1), ("", 0))])]
[False, True, None, True, [[2], [0, 1]]]
>>> high = [("high", "a", ("", 0), ("n", 0), ("", 3)), ("value", ("", 4), ("a", ("x", 0), 0))]
>>> [all_true(high, model(high)), judge_clash(high, ("ring", []))]
[True, False]
'''


class Examples(unittest.TestCase):
    def run_examples(self, text):
        test = doctest.DocTestParser().get_doctest(text, {}, "examples", None, 0)
        report = []
        result = doctest.DocTestRunner(verbose=False).run(test, out=report.append)
        self.assertGreater(result.attempted, 2)
        self.assertEqual(result.failed, 0, "".join(report))

    def test_states(self):
        self.run_examples(STATES)

    def test_sayings(self):
        self.run_examples(SAYINGS)

    def test_decide(self):
        self.run_examples(DECIDE)


if __name__ == "__main__":
    unittest.main()
