"""The section of readings.py, [3] to [6]."""

import random
import re
import unittest

from allcells.errors import Unreadable
from allcells.readings import read_saying, read_state, read_term
from allcells.sayings import checked
from allcells.states import State
from allcells.texts import show_saying, show_state, show_term
from oracle import random_saying, random_state
from refusing import Refusing

NUMBER = "[1-9][0-9]{0,59}"
INTEGER = f"(?:0|-?{NUMBER})"
NAME = "[a-z]{1,6}"
PLAIN = f"(?:{NAME}(?:[+-]{NUMBER})?|{INTEGER})"
TERM = rf"(?:{PLAIN}|{NAME}\[{PLAIN}\](?:[+-]{NUMBER})?)"
END = rf"(?:\.\.|{PLAIN})"
SAYINGS = [f"place {PLAIN} {PLAIN}", f"value {TERM} {TERM}", f"rising {NAME} {END} {END}", f"low {NAME} {END} {END} {TERM}",
           f"high {NAME} {END} {END} {TERM}", f"below {NAME} {END} {END} {NAME} {END} {END} {INTEGER}",
           f"same {NAME} {NAME} {END} {END} {INTEGER}"]
ENTRY = f"{INTEGER}:{INTEGER}"
PART = f"(?:place {NAME}={INTEGER}|value {NAME}={INTEGER}|array {NAME}={ENTRY}(?:,{ENTRY})*)"
CHARACTERS = "".join(chr(code) for code in range(32, 127) if code != 37)
LIKELY = "abxz019+-[].,;:= "


def is_term_text(text):
    return re.fullmatch(TERM, text) is not None


def is_saying_text(text):
    return any(re.fullmatch(pattern, text) for pattern in SAYINGS)


def is_state_text(text):
    """Whether some state has a text: its parts, their order, and the least form of its rows."""
    if text == "":
        return True
    if re.fullmatch(f"{PART}(?:; {PART})*", text) is None:
        return False
    heads = []
    for part in text.split("; "):
        word, _, rest = part.partition(" ")
        name, _, worth = rest.partition("=")
        heads.append((["place", "value", "array"].index(word), name))
        if word == "array" and not is_least([tuple(map(int, entry.split(":"))) for entry in worth.split(",")]):
            return False
    return heads == sorted(set(heads))


def is_least(row):
    steps = list(zip(row, row[1:]))
    first = row[1][0] - 1 if steps else 0
    return row[0][0] == first and all(i < j and v != w for (i, v), (j, w) in steps)


READERS = [(read_term, show_term, is_term_text), (read_saying, show_saying, is_saying_text),
           (read_state, show_state, is_state_text)]


def near(rng, text):
    """A text with one place changed: a character more or less, another one, two exchanged, or a word twice."""
    at = rng.randint(0, len(text))
    char = rng.choice(LIKELY if rng.random() < 0.8 else CHARACTERS)
    way = rng.randint(0, 4)
    if way == 0:
        return text[:at] + char + text[at:]
    if way == 1:
        return text[:at] + text[at + 1:]
    if way == 2:
        return text[:at] + char + text[at + 1:]
    if way == 3:
        return text[:at] + text[at + 1:at + 2] + text[at:at + 1] + text[at + 2:]
    words = text.split(" ")
    at = rng.randrange(len(words))
    return " ".join(words[:at] + words[at:at + 1] + words[at:])


class Reading(Refusing):
    def unreadable(self, call, *texts):
        for text in texts:
            self.refused(Unreadable, text, call, text)

    def beside_patterns(self, reader, texts, tries):
        """Reads texts and such as are near them, and compares with the patterns."""
        read, show, fits = READERS[reader]
        rng = random.Random(70 + reader)
        counts = {True: 0, False: 0}
        for text in texts:
            self.assertTrue(fits(text), text)
            for _ in range(tries):
                other = near(rng, text)
                counts[fits(other)] += 1
                if fits(other):
                    self.assertEqual(show(read(other)), other)
                else:
                    self.unreadable(read, other)
            self.assertEqual(show(read(text)), text)
        self.assertGreater(min(counts.values()), len(texts))


class Terms(Reading):
    def test_read(self):
        for term in [("x", 0), ("x", 1), ("x", -1), ("abcxyz", 10), ("", 0), ("", 7), ("", -7), ("a", ("x", 0), 0),
                     ("a", ("x", 2), -3), ("abcdef", ("", -1), 5), ("a", ("", 0), 0), ("place", 0), ("rising", ("low", 1), 2)]:
            self.assertEqual(read_term(show_term(term)), term)
            self.assertEqual(repr(read_term(show_term(term))), repr(term))
        self.assertEqual(read_term(text="a[n-1]+2"), ("a", ("n", -1), 2))

    def test_empty_and_blank(self):
        self.unreadable(read_term, "", " ", "x ", " x", "x +1", "x+ 1", "x y", "..", ".")

    def test_names(self):
        self.unreadable(read_term, "abcdefg", "X", "xY", "x_", "x1", "1x", "x.y", "abcdefg+1", "abcdefg[x]", "a[abcdefg]")

    def test_signs(self):
        self.unreadable(read_term, "x+", "x-", "+", "-", "x+-1", "x-+1", "x--1", "x++1", "x+1+1", "x-1-1", "+x", "-x", "+1",
                        "--1", "1+1", "1-1", "0+1", "-1+1", "a[x]+", "a[x]-", "a[x]+-1", "a[x]++1", "a[x]1", "a[x+]", "a[-]",
                        "a[+1]")

    def test_zeros(self):
        self.unreadable(read_term, "-0", "+0", "00", "01", "-01", "x+0", "x-0", "x+01", "x-01", "x+00", "a[x]+0", "a[x]-0",
                        "a[-0]", "a[00]", "a[x+0]", "a[x+01]", "a[x]-01")
        self.assertEqual(read_term("x+10"), ("x", 10))
        self.assertEqual(read_term("-100"), ("", -100))

    def test_digits(self):
        most = "9" * 60
        for text, term in [(most, ("", int(most))), ("-" + most, ("", -int(most))), ("x+" + most, ("x", int(most))),
                           ("x-" + most, ("x", -int(most))), ("a[" + most + "]-" + most, ("a", ("", int(most)), -int(most))),
                           ("1" + "0" * 59, ("", 10 ** 59))]:
            self.assertEqual(read_term(text), term)
        more = "1" + "0" * 60
        self.unreadable(read_term, more, "-" + more, "x+" + more, "x-" + more, f"a[{more}]", f"a[-{more}]", f"a[x]+{more}",
                        f"a[x-{more}]", "x+" + "0" * 60 + "1", "0" * 61, "9" * 5000)

    def test_brackets(self):
        self.unreadable(read_term, "a[", "a]", "a[]", "a[x", "ax]", "[x]", "a[[x]]", "a[x]]", "a[x][y]", "a[b[x]]", "a[b[x]+1]",
                        "a[..]", "a[x]b", "a[x]+b", "a[x] ", "a [x]", "a[ x]", "a+1[x]", "1[x]", "a(x)", "[]", "a[x]+1[y]",
                        "a[x]+[y]", "a[]x]", "a[x+1+1]", "]", "[")

    def test_other_digits_and_signs(self):
        self.unreadable(read_term, "1_0", "1e3", "0x1", "1.0", "1,0", "x+1_0", "x*2", "x+y", "x=1", "$", "~", "'x'", "x\\", "^1")

    def test_long(self):
        self.unreadable(read_term, "x" * 8000, "x+" + "1" * 7998, "a[" * 4000, "]" * 8000, "a[x]" * 2000, "-" * 8000, " " * 8000,
                        "a[" * 3999 + "x" + "]", "0" * 8000, "a[" + "x" * 7997 + "]", "x+1" + "+1" * 3998)

    def test_beside_patterns(self):
        texts = [show_term(term) for term in [
            ("x", 0), ("x", 1), ("zx", -10), ("", 0), ("", 19), ("", -1), ("a", ("x", 0), 0), ("a", ("x", 10), -1),
            ("ab", ("", -9), 90), ("abcxyz", ("abcxyz", -1), 1), ("abcxyz", 9)]]
        self.beside_patterns(0, texts, 400)


class Sayings(Reading):
    def test_read(self):
        cell = ("b", ("x", 1), -2)
        for saying in [("place", ("x", 0), ("", -3)), ("value", ("v", 2), cell), ("rising", "a", None, ("y", 12)),
                       ("low", "a", ("", 0), None, ("v", 0)), ("high", "a", None, None, cell), ("low", "a", ("x", 1), ("", 0), ("", 5)),
                       ("below", "a", None, ("y", 0), "b", ("x", 1), None, 3), ("same", "a", "b", ("x", 0), ("y", 0), -4),
                       ("same", "a", "a", None, None, 0)]:
            found = read_saying(show_saying(saying))
            self.assertEqual(repr(found), repr(saying))
            self.assertEqual(checked(found), saying)
        self.assertEqual(read_saying(text="place x y-1"), ("place", ("x", 0), ("y", -1)))

    def test_words_and_lengths(self):
        self.unreadable(read_saying, "", " ", "place", "place x", "place x y z", "places x y", "Place x y", "x y", "rising a x",
                        "rising a x y z", "low a x y", "low a x y 0 0", "below a x y b r s", "below a x y b r s 0 0",
                        "same a b x y", "same a x y 0", "value 0", "if x y", "put a x 0", "low", "highs a x y 0", "set_place x y")

    def test_spaces(self):
        self.unreadable(read_saying, "place  x y", "place x  y", " place x y", "place x y ", "place x y  ", "rising a x", "place xy",
                        "place x y+ 1", "placex y", "same a b x y  0")

    def test_parts_of_another_kind(self):
        self.unreadable(read_saying, "place a[x] y", "place x a[y]", "place .. x", "place x ..", "value .. v", "value v ..",
                        "rising 0 x y", "rising a+1 x y", "rising .. x y", "rising a[x] x y", "rising a b[x] y", "rising a x b[y]",
                        "low a x y ..", "low a[x] x y 0", "high a x b[y] 0", "below a x y 0 r s 0", "below a x y b r s x",
                        "below a x y b r s ..", "below a x y b r s k+1", "same a b x y z", "same a 0 x y 0", "same a b x y ..",
                        "rising a ... x", "rising a . x", "rising a x+.. y", "rising abcdefg x y", "value a[b[x]] 0",
                        "rising A x y", "same a b x y +1", "same a b a[x] y 1")

    def test_integers(self):
        self.unreadable(read_saying, "same a b x y 00", "same a b x y -0", "same a b x y 01", "same a b x y -01", "place 00 x",
                        "place x+0 y", "place x y-0", "low a -0 x 0", "low a 0 x -0", "high a x y b[x+0]", "value v+0 0",
                        "below a x y b r s -00", "same a b x y " + "1" * 61, "place x y+" + "1" * 61, "same a b x y --1")
        self.assertEqual(read_saying("same a b x y -" + "1" * 60)[5], -int("1" * 60))
        self.assertEqual(read_saying("place x y+" + "1" * 60)[2], ("y", int("1" * 60)))

    def test_a_name_in_two_roles(self):
        self.assertEqual(read_saying("low x x x x"), ("low", "x", ("x", 0), ("x", 0), ("x", 0)))
        self.assertEqual(read_saying("value a a[a]"), ("value", ("a", 0), ("a", ("a", 0), 0)))
        self.assertEqual(read_saying("place place value"), ("place", ("place", 0), ("value", 0)))
        self.assertEqual(read_saying("rising rising low high"), ("rising", "rising", ("low", 0), ("high", 0)))
        self.assertEqual(checked(read_saying("below a a a a a a 0")), ("below", "a", ("a", 0), ("a", 0), "a", ("a", 0), ("a", 0), 0))

    def test_long(self):
        self.unreadable(read_saying, "place " * 1333, "low a 0 " + "x" * 7992, " " * 8000, "rising a " + ". " * 3995,
                        "same a b x y " + "9" * 7987, "value " + "a[" * 3997, "x" * 8000, "value a[x] a[" + "x" * 7986 + "]")

    def test_beside_patterns(self):
        rng = random.Random(71)
        terms = [("x", 0), ("", 0), ("zx", 9), ("", -10), ("y", -1)]
        texts = [show_saying(random_saying(rng, terms, size=11, open_ends=0.3)) for _ in range(120)]
        self.beside_patterns(1, texts, 40)


class States(Reading):
    def test_read(self):
        for state in [State({}, {}, {}), State({"n": 3}, {}, {}), State({}, {"v": -3}, {}), State({}, {}, {"a": [(0, 0)]}),
                      State({"n": 0, "x": -12}, {"v": 4, "u": 10}, {"a": [(0, 1), (2, -5)], "b": [(-7, 1), (3, 2), (4, 1)]})]:
            found = read_state(show_state(state))
            self.assertTrue(found == state)
            self.assertEqual([found.places, found.numbers, found.arrays], [state.places, state.numbers, state.arrays])
            self.assertEqual(len(found), len(state))
        self.assertTrue(read_state(text="place n=3; array a=0:2,1:4") == State({"n": 3}, {}, {"a": [(0, 2), (1, 4)]}))
        self.assertTrue(read_state("") == State({}, {}, {}))

    def test_read_back_at_random(self):
        rng = random.Random(72)
        for _ in range(100):
            state = random_state(rng, places=rng.choice(["", "nxy"]), values=rng.choice(["", "uv"]), size=20, length=12)
            self.assertTrue(read_state(show_state(state)) == state)

    def test_separators(self):
        self.unreadable(read_state, " ", ";", "; ", "place n=3;", "place n=3; ", "; place n=3", "place n=3;place x=1",
                        "place n=3;  place x=1", "place n=3 ; place x=1", "place n=3, place x=1", "place n=3; ; place x=1",
                        " place n=3", "place n=3 ", "place  n=3", "place n =3", "place n= 3", "place n=3; ;", "placen=3")

    def test_words_and_signs(self):
        self.unreadable(read_state, "n=3", "place", "place n", "place n=", "place =3", "place 3", "place n=x", "place n==3",
                        "place n=3=3", "places n=3", "name n=3", "Place n=3", "place n:3", "place n=3:1", "place n=+3", "place n=--3",
                        "value v=", "value v=-", "array a", "array a=", "array a=1", "array a=:", "array a=0:", "array a=:0",
                        "array a=0:1,", "array a=,0:1", "array a=0:1,,1:2", "array a=0:1:2", "array a=0=1", "array a=0:1 ,1:2",
                        "array a=0:1, 1:2", "array a=0:1;1:2", "array a=(0:1)", "place a[x]=3", "low a 0 n 0", "x", "place n+1=3",
                        "array a=x:1", "array a=0:v")

    def test_names(self):
        self.unreadable(read_state, "place abcdefg=1", "value A=1", "array a1=0:1", "array =0:1", "value =1", "place ab c=1")
        self.assertEqual(read_state("place abcdef=1; value place=2; array value=0:1").numbers, {"place": 2})

    def test_order(self):
        self.unreadable(read_state, "value v=1; place n=1", "array a=0:1; value v=1", "array a=0:1; place n=1",
                        "place x=1; place n=1", "value v=1; value u=1", "array b=0:1; array a=0:1", "place xa=1; place x=1",
                        "place n=1; value v=1; place x=1")

    def test_a_name_twice(self):
        self.unreadable(read_state, "place n=1; place n=1", "place n=1; place n=2", "value v=1; value v=1", "array a=0:1; array a=0:1",
                        "place m=1; place n=1; place n=1; place o=1")
        state = read_state("place a=1; value a=2; array a=0:3")
        self.assertEqual([state.places, state.numbers, state.arrays], [{"a": 1}, {"a": 2}, {"a": [(0, 3)]}])

    def test_rows_not_in_least_form(self):
        self.unreadable(read_state, "array a=1:0", "array a=-1:0", "array a=0:1,1:1", "array a=0:1,2:2", "array a=1:2,0:1",
                        "array a=0:1,1:2,2:2", "array a=0:1,1:2,3:2", "array a=0:1,0:2", "array a=0:1,1:2,1:2", "array a=0:1,1:2,1:3",
                        "array a=0:0,0:0", "array a=0:1,1:2,5:3,4:4", "array a=-1:1,1:2", "array a=1:1,1:2", "array a=2:1,1:2",
                        "array a=0:1; array b=3:1")
        self.assertEqual(read_state("array a=-3:1,-2:0,7:1,8:2").arrays, {"a": [(-3, 1), (-2, 0), (7, 1), (8, 2)]})

    def test_integers(self):
        self.unreadable(read_state, "place n=-0", "place n=00", "place n=03", "place n=-03", "value v=-0", "array a=0:-0",
                        "array a=-0:1", "array a=00:1", "array a=0:01", "array a=0:1,01:2", "place n=" + "1" * 61,
                        "value v=-" + "1" * 61, "array a=0:" + "1" * 61, "array a=0:1," + "1" * 61 + ":2", "place n=1_0",
                        "place n=0x1", "place n=1.0")
        most = int("1" * 60)
        state = read_state(f"place n=-{most}; value v={most}; array a={most - 1}:{most},{most}:-{most}")
        self.assertEqual([state.places, state.numbers, state.arrays],
                         [{"n": -most}, {"v": most}, {"a": [(most - 1, most), (most, -most)]}])

    def test_long(self):
        row = [(at - 500, at % 7 - 3) for at in range(900)]
        state = State({}, {}, {"a": row})
        text = show_state(state)
        self.assertTrue(6000 < len(text) <= 8000)
        self.assertTrue(read_state(text) == state)
        self.unreadable(read_state, text + ",", text + ",401:0", text[:-1], text[:-2], text + "; array a=0:0", text.replace("300", "3000"))
        names = sorted(a + b + c for a in "abcdefgh" for b in "abcdefgh" for c in "abcdefghi")
        state = State({name: at for at, name in enumerate(names)}, {}, {})
        text = show_state(state)[: 8000]
        text = text[: text.rfind(";")]
        self.assertEqual(show_state(read_state(text)), text)
        self.unreadable(read_state, text + "; place aaa=1", "; " * 4000, ";" * 8000, "place " * 1333, "=" * 8000, ":," * 4000, "a" * 8000,
                        "place n=" + "0" * 7992, "place " + "n" * 7992 + "=1", "array a=" + "0:1," * 1998, "place n=1; " * 727)

    def test_beside_patterns(self):
        rng = random.Random(73)
        texts = [show_state(random_state(rng, places=rng.choice(["", "n", "nxy"]), values=rng.choice(["", "uv"]),
                                         arrays=rng.choice(["", "a", "ab"]), size=11)) for _ in range(120)]
        self.beside_patterns(2, texts, 40)


class General(Reading):
    def test_one_text_for_one_thing(self):
        """Texts that can be read show all different things."""
        seen = []
        for text in ["x", "x+1", "x-1", "x+10", "1", "0", "-1", "a[x]", "a[x]+1", "a[x+1]", "a[0]", "a[1]", "ax"]:
            seen.append(read_term(text))
            self.assertEqual(show_term(seen[-1]), text)
        self.assertEqual(len(set(seen)), len(seen))

    def test_no_text_of_another_kind(self):
        self.unreadable(read_term, "place x y", "place n=3", "place n=3; value v=1")
        self.unreadable(read_saying, "x", "place n=3", "a[x]", "place n=3; value v=1")
        self.unreadable(read_state, "x", "place x y", "rising a x y", "0")

    def test_any_characters(self):
        rng = random.Random(74)
        for _ in range(600):
            text = "".join(rng.choice(rng.choice([CHARACTERS, LIKELY])) for _ in range(rng.randint(0, 6)))
            for read, show, fits in READERS:
                if fits(text):
                    self.assertEqual(show(read(text)), text)
                else:
                    self.unreadable(read, text)
        for char in CHARACTERS:
            for read, show, fits in READERS:
                if fits(char):
                    self.assertEqual(show(read(char)), char)
                else:
                    self.unreadable(read, char)


if __name__ == "__main__":
    unittest.main()
