"""[6] to [10] and the section of follows.py."""

import random
import string
import unittest

from allcells.decide import judge_clash
from allcells.errors import InvalidName, InvalidSaying, InvalidTerm
from allcells.follows import (
    alike, counter, first_different, first_new, follows, judge_why, needless, thinned, why_follows,
)
from allcells.sayings import all_true, is_true, names_of, opposites
from allcells.states import State
from oracle import all_new, mutants, plainly_possible, plainly_shows, random_saying
from refusing import Refusing

X, Y, Z, ZERO = ("x", 0), ("y", 0), ("z", 0), ("", 0)
FALSE = ("value", ("", 1), ZERO)


def fresh_for(sayings):
    """The two first names of one letter that stand in none of the statements."""
    taken = [name for names in names_of(sayings) for name in names]
    return tuple([letter for letter in string.ascii_lowercase if letter not in taken][:2])


def lists_against(sayings, saying):
    fresh = fresh_for(sayings + [saying])
    return [sayings + each for each in opposites(saying, fresh)]


def plainly_follows(sayings, saying):
    return not any(plainly_possible(each) for each in lists_against(sayings, saying))


def named(state):
    return (sorted(state.places), sorted(state.numbers), sorted(state.arrays))


class Asking(unittest.TestCase):
    def ask(self, sayings, saying):
        """What the functions say, when they agree: True if the statement follows."""
        before = repr([sayings, saying])
        answer, state, trees = follows(sayings, saying), counter(sayings, saying), why_follows(sayings, saying)
        self.assertIs(answer, state is None)
        self.assertIs(answer, trees is not None)
        if answer:
            self.assertIs(answer, True)
            lists = lists_against(sayings, saying)
            self.assertEqual(len(trees), len(lists))
            for against, tree in zip(lists, trees):
                self.assertTrue(plainly_shows(against, tree))
                self.assertTrue(judge_clash(against, tree))
            self.assertIs(judge_why(sayings, saying, trees), True)
            self.assertTrue(all_new(trees, sayings))
        else:
            self.assertIsInstance(state, State)
            self.assertEqual(named(state), names_of(sayings + [saying]))
            self.assertTrue(all_true(sayings, state))
            self.assertFalse(is_true(saying, state))
            self.assertIs(judge_why(sayings, saying, []), False)
        self.assertEqual(repr([sayings, saying]), before)
        return answer

    def yes(self, sayings, saying):
        self.assertTrue(self.ask(sayings, saying), (sayings, saying))

    def no(self, sayings, saying):
        self.assertFalse(self.ask(sayings, saying), (sayings, saying))


class Follows(Asking):
    def test_each_word_from_itself(self):
        for saying in [("place", X, Y), ("value", ("v", 0), ("a", X, 3)), ("rising", "a", X, Y), ("low", "a", X, None, ("v", 0)),
                       ("high", "a", None, Y, ("b", Z, 2)), ("below", "a", X, Y, "b", None, Z, -3), ("same", "a", "b", X, Y, 4)]:
            self.yes([saying], saying)
            self.no([], saying)

    def test_weaker_and_stronger(self):
        self.yes([("place", X, Y)], ("place", X, ("y", 1)))
        self.no([("place", X, Y)], ("place", ("x", 1), Y))
        self.yes([("rising", "a", X, Y)], ("rising", "a", ("x", 1), ("y", -1)))
        self.no([("rising", "a", X, Y)], ("rising", "a", ("x", -1), Y))
        self.yes([("rising", "a", None, None)], ("rising", "a", X, None))
        self.no([("rising", "a", X, None)], ("rising", "a", None, None))
        self.yes([("low", "a", X, Y, ("v", 1))], ("low", "a", X, Y, ("v", 0)))
        self.no([("low", "a", X, Y, ("v", 0))], ("low", "a", X, Y, ("v", 1)))
        self.yes([("high", "a", X, Y, ("v", 0))], ("high", "a", X, Y, ("v", 1)))
        self.no([("high", "a", X, Y, ("v", 1))], ("high", "a", X, Y, ("v", 0)))
        self.yes([("below", "a", X, Y, "b", X, Y, 2)], ("below", "a", X, Y, "b", X, Y, 1))
        self.no([("below", "a", X, Y, "b", X, Y, 1)], ("below", "a", X, Y, "b", X, Y, 2))
        self.yes([("same", "a", "b", X, Y, 2)], ("same", "b", "a", X, Y, -2))
        self.no([("same", "a", "b", X, Y, 2)], ("same", "a", "b", X, Y, 1))
        self.no([("same", "a", "b", X, Y, 2)], ("same", "a", "b", X, Y, 3))

    def test_stretches_without_places(self):
        for word in [("rising", "a", ("x", 1), X), ("low", "a", ("x", 1), X, ("v", 0)), ("same", "a", "b", ("", 1), ZERO, 5),
                     ("below", "a", ("x", 1), X, "b", None, None, 9)]:
            self.yes([], word)
        self.yes([], ("rising", "a", X, X))
        self.no([], ("low", "a", X, X, ("v", 0)))
        self.yes([("place", ("y", 1), X)], ("high", "a", X, Y, ("v", 0)))

    def test_two_lists_of_opposites(self):
        both = [("below", "a", X, X, "b", X, X, 2), ("below", "b", X, X, "a", X, X, -2)]
        self.yes(both, ("same", "a", "b", X, X, 2))
        self.assertEqual(len(why_follows(both, ("same", "a", "b", X, X, 2))), 2)
        self.no(both[:1], ("same", "a", "b", X, X, 2))
        self.no(both[1:], ("same", "a", "b", X, X, 2))
        self.yes([("same", "a", "b", X, None, 0), ("same", "b", "c", None, Y, 1)], ("same", "a", "c", X, Y, 1))

    def test_true_in_no_state(self):
        for sayings in [[FALSE], [("place", ("x", 1), Y), ("place", Y, X)], [("same", "a", "a", X, X, 1)]]:
            for saying in [("place", X, Y), FALSE, ("same", "b", "c", None, None, 3), ("rising", "a", None, None)]:
                self.yes(sayings, saying)

    def test_empty_list(self):
        self.yes([], ("place", X, ("x", 0)))
        self.yes([], ("value", ("v", -1), ("v", 0)))
        self.no([], ("value", ("v", 1), ("v", 0)))
        self.no([], FALSE)
        self.yes([], ("same", "a", "a", None, None, 0))
        self.no([], ("same", "a", "b", None, None, 0))

    def test_names_that_stand_in_one_part_only(self):
        state = counter([("place", X, Y), ("rising", "b", None, None)], ("value", ("v", 0), ("a", Z, 0)))
        self.assertEqual(named(state), (["x", "y", "z"], ["v"], ["a", "b"]))

    def test_beside_all_orders(self):
        rng = random.Random(30)
        pools = [[X, Y], [ZERO, X], [X, ("x", 1), Y], [("y", -1), ("", 2)]]
        counts = {True: 0, False: 0}
        for _ in range(170):
            terms = rng.choice(pools)
            sayings = [random_saying(rng, terms) for _ in range(rng.randint(0, 5))]
            near = rng.choice(sayings) if sayings and rng.random() < 0.3 else None
            saying = weaker(rng, near) if near else random_saying(rng, terms)
            answer = self.ask(sayings, saying)
            counts[answer] += 1
            self.assertIs(answer, plainly_follows(sayings, saying), (sayings, saying))
        self.assertGreater(min(counts.values()), 40)

    def test_by_name(self):
        sayings, saying = [("place", X, Y)], ("place", X, ("y", 1))
        self.assertIs(follows(sayings=sayings, saying=saying), True)
        self.assertIsNone(counter(saying=saying, sayings=sayings))
        trees = why_follows(sayings=sayings, saying=saying)
        self.assertIs(judge_why(sayings=sayings, saying=saying, told=trees), True)


def weaker(rng, saying):
    """A statement near another one."""
    if saying[0] in ("below", "same"):
        return saying[:-1] + (saying[-1] + rng.choice([-1, 0, 1]),)
    if saying[0] in ("place", "value", "low", "high"):
        last = saying[-1]
        return saying[:-1] + (last[:-1] + (last[-1] + rng.choice([-1, 0, 1]),),)
    return saying


class JudgeWhy(Asking):
    sayings = [("same", "a", "c", X, Y, 0), ("same", "c", "d", X, Y, 1)]
    saying = ("same", "a", "d", X, Y, 1)

    def trees(self):
        return why_follows(self.sayings, self.saying)

    def test_too_few_and_too_many(self):
        trees = self.trees()
        self.assertEqual(len(trees), 2)
        self.assertIs(judge_why(self.sayings, self.saying, trees), True)
        for told in [[], trees[:1], trees[1:], trees + trees[:1], trees + [None], [trees], tuple(trees), None, 0, "",
                     [None, None], [[], []], [("ring", []), ("ring", [])], True, trees[0], ("ring", trees)]:
            self.assertIs(judge_why(self.sayings, self.saying, told), False, told)

    def test_exchanged(self):
        trees = self.trees()
        self.assertIs(judge_why(self.sayings, self.saying, trees[::-1]), False)
        self.assertIs(judge_why(self.sayings, self.saying, [trees[0], trees[0]]), False)
        self.assertIs(judge_why(self.sayings, self.saying, [trees[1], trees[1]]), False)

    def test_of_another_statement(self):
        trees = self.trees()
        self.assertIs(judge_why(self.sayings, ("same", "a", "d", X, Y, 2), trees), False)
        self.assertIs(judge_why(self.sayings[:1], self.saying, trees), False)
        self.assertIs(judge_why(self.sayings[::-1], self.saying, trees), False)

    def test_spoilt_in_one_place(self):
        for sayings, saying in [(self.sayings, self.saying), ([("place", X, Y), ("place", Y, ("z", -2))], ("place", X, ("z", -1))),
                                ([("rising", "a", None, Y)], ("rising", "a", None, ("y", -1)))]:
            trees = why_follows(sayings, saying)
            lists = lists_against(sayings, saying)
            wrong = 0
            for at, tree in enumerate(trees):
                for each in mutants(tree):
                    told = trees[:at] + [each] + trees[at + 1:]
                    right = plainly_shows(lists[at], each)
                    self.assertIs(judge_why(sayings, saying, told), right, told)
                    wrong += not right
            self.assertGreater(wrong, 30)

    def test_first_fresh_names(self):
        """The names that are taken are a, c and v, so the fresh ones are b and d."""
        sayings, saying = [("high", "a", ("c", 0), None, ("v", 1))], ("high", "a", ("c", 2), None, ("v", 1))

        def told(name):
            here = ("a", (name, 0))
            below = ("ring", [(name, 1, "c", ("case", 0)), ("c", 2, name, ("said", 1))])
            above = ("ring", [(here, -1, "v", ("asked", 0, [(name, 0)])), ("v", 2, here, ("said", 2))])
            return [("cases", (name, 0), ("c", 0), below, above, above)]

        self.yes(sayings, saying)
        self.assertIs(judge_why(sayings, saying, told("b")), True)
        for name in ("d", "i", "e", "aa"):
            self.assertIs(judge_why(sayings, saying, told(name)), False)

    def test_fresh_names_follow_the_alphabet_not_the_statements(self):
        sayings, saying = [("place", ("b", 0), ("d", 0))], ("rising", "a", ("b", 1), ("b", 0))
        names = fresh_for(sayings + [saying])
        self.assertEqual(names, ("c", "e"))
        tree = why_follows(sayings, saying)[0]
        self.assertIs(judge_clash(sayings + opposites(saying, ("c", "e"))[0], tree), True)
        ring = [("b", 1, "c", ("said", 1)), ("c", 0, "e", ("said", 2)), ("e", 0, "b", ("said", 3))]
        self.assertIs(judge_why(sayings, saying, [("ring", ring)]), True)
        other = [("b", 1, "i", ("said", 1)), ("i", 0, "j", ("said", 2)), ("j", 0, "b", ("said", 3))]
        self.assertIs(judge_why(sayings, saying, [("ring", other)]), False)

    def test_names_of_more_letters_are_not_fresh_ones(self):
        letters = string.ascii_lowercase
        sayings = [("place", (letters[at], 0), (letters[at + 1], 0)) for at in range(0, 8, 2)]
        self.yes(sayings, ("same", "zz", "zz", None, None, 0))
        self.assertEqual(fresh_for(sayings), ("i", "j"))


class Comparing(Asking):
    def test_first_different(self):
        up, down = ("place", X, Y), ("place", Y, X)
        for one, other in [([up], [down]), ([], [up]), ([up], []), ([up, down], [up]), ([FALSE], []), ([], [FALSE]),
                           ([up], [up, ("rising", "a", None, ("v", 0))]), ([("value", ("v", 0), ("a", X, 1))], [down])]:
            self.different(one, other)
        for one, other in [([], []), ([up], [up]), ([up, down], [down, up]), ([FALSE], [("place", ("x", 1), X)]),
                           ([], [("place", X, ("x", 4))]), ([up, up], [up])]:
            self.same(one, other)

    def different(self, one, other):
        before = repr([one, other])
        state = first_different(one, other)
        self.assertIsInstance(state, State)
        self.assertEqual(named(state), names_of(one + other))
        self.assertIs(all_true(one, state), not all_true(other, state))
        self.assertIs(alike(one, other), False)
        self.assertEqual(repr([one, other]), before)

    def same(self, one, other):
        self.assertIsNone(first_different(one, other))
        self.assertIs(alike(one, other), True)

    def test_first_new(self):
        up, more = ("place", X, Y), ("place", X, ("y", 1))
        self.assertIsNone(first_new([], []))
        self.assertIsNone(first_new([up], []))
        self.assertEqual(first_new([], [up]), 0)
        self.assertIsNone(first_new([up], [more, up, more]))
        self.assertEqual(first_new([more], [more, up]), 1)
        self.assertEqual(first_new([more], [more, up, FALSE]), 1)
        self.assertIsNone(first_new([FALSE], [up, more, ("same", "a", "b", None, None, 3)]))
        self.assertEqual(first_new([up], [FALSE]), 0)

    def test_beside_plain_answers(self):
        rng = random.Random(31)
        answers = {True: 0, False: 0}
        for _ in range(60):
            one = [random_saying(rng, [X, ("y", 1)], arrays="a", values="v", size=1) for _ in range(rng.randint(0, 3))]
            other = list(one)
            rng.shuffle(other)
            if other and rng.random() < 0.6:
                other[rng.randrange(len(other))] = weaker(rng, rng.choice(one))
            if rng.random() < 0.5:
                other.append(weaker(rng, rng.choice(one)) if one else ("place", X, ("x", rng.choice([-1, 0]))))
            new = [at for at, each in enumerate(other) if not plainly_follows(one, each)]
            self.assertEqual(first_new(one, other), new[0] if new else None)
            equal = not new and all(plainly_follows(other, each) for each in one)
            answers[equal] += 1
            (self.same if equal else self.different)(one, other)
        self.assertGreater(min(answers.values()), 10)

    def test_by_name(self):
        up = ("place", X, Y)
        self.assertIs(alike(one=[up], other=[]), False)
        self.assertEqual(first_new(one=[], other=[up]), 0)
        self.assertIsNotNone(first_different(other=[], one=[up]))


class Needless(unittest.TestCase):
    def plainly_needless(self, sayings):
        return [at for at, each in enumerate(sayings) if plainly_follows(sayings[:at] + sayings[at + 1:], each)]

    def plainly_thinned(self, sayings):
        left = list(range(len(sayings)))
        for at in range(len(sayings) - 1, -1, -1):
            if plainly_follows([sayings[other] for other in left if other != at], sayings[at]):
                left.remove(at)
        return [sayings[at] for at in left]

    def check(self, sayings, needless_ones, left):
        before = repr(sayings)
        self.assertEqual(needless(sayings), needless_ones)
        self.assertEqual(thinned(sayings), left)
        self.assertTrue(alike(sayings, left))
        self.assertEqual(repr(sayings), before)

    def test_ordinary(self):
        up, more = ("place", X, Y), ("place", X, ("y", 1))
        self.check([], [], [])
        self.check([up], [], [up])
        self.check([up, more], [1], [up])
        self.check([more, up], [0], [up])
        self.check([("place", X, X)], [0], [])
        self.check([up, ("place", Y, Z), ("place", X, Z)], [2], [up, ("place", Y, Z)])

    def test_twice(self):
        up, down = ("place", X, Y), ("rising", "a", X, Y)
        self.check([up, up], [0, 1], [up])
        self.check([up, down, up], [0, 2], [up, down])
        self.check([down, up, up, down], [0, 1, 2, 3], [down, up])

    def test_in_a_circle(self):
        """Each of three follows from the two others, so the last one is left out."""
        one, two, three = ("same", "a", "b", X, Y, 0), ("same", "b", "c", X, Y, 0), ("same", "a", "c", X, Y, 0)
        self.check([one, two, three], [0, 1, 2], [one, two])
        self.check([three, two, one], [0, 1, 2], [three, two])

    def test_true_in_no_state(self):
        other = ("value", ("", 3), ("", 2))
        self.check([FALSE], [], [FALSE])
        self.check([FALSE, other], [0, 1], [FALSE])
        self.check([("place", X, Y), FALSE], [0], [FALSE])
        self.check([FALSE, ("place", X, Y)], [1], [FALSE])

    def test_beside_plain_answers(self):
        rng = random.Random(32)
        sizes = {}
        for _ in range(60):
            sayings = [random_saying(rng, [X, ("y", 1)], arrays="a", values="v", size=1) for _ in range(rng.randint(1, 4))]
            if rng.random() < 0.7:
                sayings.insert(rng.randrange(len(sayings)), weaker(rng, rng.choice(sayings)))
            left = self.plainly_thinned(sayings)
            sizes[len(sayings) - len(left)] = True
            self.check(sayings, self.plainly_needless(sayings), left)
        self.assertGreater(len(sizes), 2)

    def test_new_lists(self):
        sayings = [("place", X, Y), ("place", Y, X)]
        left = thinned(sayings)
        self.assertEqual(left, sayings)
        left.append(1)
        self.assertEqual(thinned(sayings), sayings)
        self.assertEqual(len(sayings), 2)
        found = needless([FALSE] * 2)
        found.append(7)
        self.assertEqual(needless(sayings=[FALSE] * 2), [0, 1])
        self.assertEqual(thinned(sayings=[FALSE] * 2), [FALSE])


class Errors(Refusing):
    good = ("place", X, Y)
    wrong = [(("place", X), InvalidSaying, ("place", X)), (("rising", "A", None, 3), InvalidName, "A"),
             (("low", "a", X, None, ("v", None)), InvalidTerm, ("v", None)), ([[]], InvalidSaying, [[]])]

    def test_of_a_list_and_a_statement(self):
        def judged(sayings, saying):
            return judge_why(sayings, saying, [])

        for call in (follows, counter, why_follows, judged):
            for bad, kind, value in self.wrong:
                self.refused(kind, value, call, [], bad)
                self.refused(kind, value, call, [FALSE, bad], self.good)
                self.refused(kind, value, call, [FALSE, bad, ("value",)], ("same",))
                self.refused(kind, value, call, [FALSE], bad)

    def test_of_two_lists(self):
        for call in (first_different, alike, first_new):
            for bad, kind, value in self.wrong:
                self.refused(kind, value, call, [], [bad])
                self.refused(kind, value, call, [bad], [])
                self.refused(kind, value, call, [self.good, bad], [("same",)])
                self.refused(kind, value, call, [self.good], [self.good, bad, ("same",)])
                self.refused(kind, value, call, [FALSE], [self.good, bad])
                self.refused(kind, value, call, [], [self.good, FALSE, bad])

    def test_of_one_list(self):
        for call in (needless, thinned):
            for bad, kind, value in self.wrong:
                self.refused(kind, value, call, [bad])
                self.refused(kind, value, call, [bad, ("same",)])
                self.refused(kind, value, call, [FALSE, self.good, bad, ("same",)])


if __name__ == "__main__":
    unittest.main()
