"""[14] How keys are read whose gaps are not all known, and which gaps matter."""

import random
import unittest
from itertools import product

from keywait.errors import NoGaps, NoKeys, NoMap, NoState
from keywait.gaps import mattering, readings
from tests.samples import (
    KEYMAP, PLAIN, STATES, STRANGE, WAIT, binding_just, call, draw_many, exactly, plain_read, with_part,
)

JK = ("do", "leave", "jk")
J = ("do", "down", "j")


def texts(letters):
    """The events of letters that are text."""
    return [("text", letter) for letter in letters]


def plain_fillings(gaps):
    """All fillings, as Python sorts them."""
    return sorted("".join(signs) for signs in product(*["sl" if gap == "o" else gap for gap in gaps]))


def plain_events(keymap, state, keys, filling, drawn=None):
    """The events of a row with such gaps."""
    row, time = [], 0
    for letter, gap in zip(keys, " " + filling):
        if gap == "s":
            time += drawn.randint(0, keymap[4]) if drawn else keymap[4]
        if gap == "l":
            time += keymap[4] + (drawn.randint(1, 9) if drawn else 1)
        row.append(("key", letter, time))
    return plain_read(keymap, state, row)[0]


def plain_readings(keymap, state, keys, gaps, drawn=None):
    """What readings lists, by the words of [14]."""
    found = []
    for filling in plain_fillings(gaps):
        events = plain_events(keymap, state, keys, filling, drawn)
        if events not in [told for _, told in found]:
            found.append((filling, events))
    return found


def plain_mattering(keymap, state, keys, gaps, place):
    """What mattering tells, by the words of [14]."""
    for filling in plain_fillings(gaps):
        other = filling[:place] + "s" + filling[place + 1:]
        if filling[place] == "l" and plain_events(keymap, state, keys, filling) != plain_events(
                keymap, state, keys, other):
            return filling
    return None


def draw_gaps(drawn, many, most=8):
    """Drawn gaps, at most so many of them open."""
    gaps = [drawn.choice("slooo") for _ in range(many)]
    while gaps.count("o") > most:
        gaps[gaps.index("o")] = drawn.choice("sl")
    return "".join(gaps)


class ReadingsTest(unittest.TestCase):

    def told(self, keymap, state, keys, gaps, expected):
        with self.subTest(keys=keys, gaps=gaps):
            self.assertEqual(exactly(call(readings, keymap, state, keys, gaps)), exactly(expected))
            self.assertEqual(plain_readings(keymap, state, keys, gaps), expected)

    def test_none_open(self):
        self.told(PLAIN, (), "jk", "s", [("s", [JK])])
        self.told(PLAIN, (), "jk", "l", [("l", [J, ("text", "k")])])
        self.told(PLAIN, (), "jkjk", "sls", [("sls", [JK, JK])])
        self.told(PLAIN, (), "jjk", "sl", [("sl", [J, J, ("text", "k")])])

    def test_one_letter(self):
        self.told(PLAIN, (), "j", "", [("", [J])])
        self.told(PLAIN, (), "x", "", [("", texts("x"))])

    def test_one_open(self):
        self.told(PLAIN, (), "jk", "o", [("l", [J, ("text", "k")]), ("s", [JK])])
        self.told(PLAIN, (), "xjk", "so", [("sl", [*texts("x"), J, *texts("k")]), ("ss", [*texts("x"), JK])])

    def test_a_gap_that_changes_nothing(self):
        self.told(PLAIN, (), "xj", "o", [("l", [*texts("x"), J])])
        self.told(PLAIN, (), "xjk", "os", [("ls", [*texts("x"), JK])])
        self.told(PLAIN, (), "xjk", "oo", [("ll", [*texts("x"), J, *texts("k")]), ("ls", [*texts("x"), JK])])
        self.told(binding_just(), (), "jkl", "oo", [("ll", texts("jkl"))])

    def test_equal_events_are_listed_once(self):
        self.told(binding_just("ab", "bc"), (), "abc", "oo", [
            ("ll", texts("abc")), ("ls", [*texts("a"), ("do", "bc", "bc")]), ("sl", [("do", "ab", "ab"), *texts("c")])])
        keymap = with_part(PLAIN, 3, ((("ab", {}, "down"), ("abc", {}, "leave"), ("c", {}, "leave")),))
        self.told(keymap, (), "abc", "so", [("sl", [("do", "down", "ab"), ("do", "leave", "c")]),
                                            ("ss", [("do", "leave", "abc")])])

    def test_the_same_command_by_other_keys_is_another_reading(self):
        keymap = with_part(PLAIN, 3, ((("a", {}, "down"), ("aa", {}, "down"), ("aaa", {}, "down")),))
        do = [("do", "down", "a" * many) for many in range(4)]
        self.told(keymap, (), "aaa", "oo", [
            ("ll", [do[1], do[1], do[1]]), ("ls", [do[1], do[2]]), ("sl", [do[2], do[1]]), ("ss", [do[3]])])

    def test_bursts_with_a_command_that_changes_the_state(self):
        keymap = (("a",), (), {"on": {"a": True}, "go": {}, "no": {}},
                  ((("j", {}, "on"), ("jk", {"a": True}, "go"), ("kl", {"a": True}, "no")),), WAIT)
        on, go, no = ("do", "on", "j"), ("do", "go", "jk"), ("do", "no", "kl")
        self.told(keymap, (False,), "jkl", "oo", [("ll", [on, *texts("kl")]), ("ls", [on, no])])
        self.told(keymap, (False,), "jjk", "oo", [("ll", [on, on, *texts("k")]), ("ls", [on, go])])
        self.told(keymap, (True,), "jkl", "oo", [
            ("ll", [on, *texts("kl")]), ("ls", [on, no]), ("sl", [go, *texts("l")])])

    def test_eight_open_and_twelve_letters(self):
        for gaps in ["looloolools", "ooolooolool", "oooooooosls", "slsoooooooo"]:
            self.assertEqual(gaps.count("o"), 8 if gaps[0] != "l" else 6)
            for keymap in [binding_just("aa"), binding_just("aaa", "aa"), binding_just("aaaa")]:
                told = call(readings, keymap, (), "a" * 12, gaps)
                self.assertEqual(exactly(told), exactly(plain_readings(keymap, (), "a" * 12, gaps)))
        # Each filling is read in its own way.
        keymap = binding_just("a", "aa", "aaa", "aaaa")
        told = call(readings, keymap, (), "a" * 12, "ooolooolool")
        self.assertEqual([filling for filling, _ in told], plain_fillings("ooolooolool"))
        self.assertEqual(len(told), 256)
        told = call(readings, binding_just(), (), "abcdefghijkl", "oooooooosls")
        self.assertEqual(told, [("l" * 8 + "sls", texts("abcdefghijkl"))])

    def test_a_filling_is_the_first_as_python_sorts(self):
        told = [filling for filling, _ in call(readings, binding_just("a", "aa"), (), "aaaa", "ooo")]
        self.assertEqual(told, sorted(told))
        self.assertEqual(told, ["lll", "lls", "lsl", "sll", "sls"])

    def test_what_is_returned_is_new(self):
        expected = exactly(readings(PLAIN, (), "jkjk", "ooo"))
        told = call(readings, PLAIN, (), "jkjk", "ooo")
        self.assertEqual(len({id(events) for _, events in told}), len(told))
        for _, events in told:
            events.append(None)
        told.clear()
        self.assertEqual(exactly(call(readings, PLAIN, (), "jkjk", "ooo")), expected)

    def test_drawn(self):
        drawn = random.Random(14)
        many = {}
        for keymap, state in draw_many(drawn, 250):
            keys = "".join(drawn.choice("jjklx") for _ in range(drawn.randint(1, 12)))
            gaps = draw_gaps(drawn, len(keys) - 1, drawn.randint(0, 6))
            expected = plain_readings(keymap, state, keys, gaps, drawn)
            self.assertEqual(exactly(call(readings, keymap, state, keys, gaps)), exactly(expected))
            many[len(expected)] = many.get(len(expected), 0) + 1
        self.assertGreater(len(many), 4, many)


class MatteringTest(unittest.TestCase):

    def told(self, keymap, state, keys, gaps, place, expected):
        with self.subTest(keys=keys, gaps=gaps, place=place):
            self.assertEqual(exactly(call(mattering, keymap, state, keys, gaps, place)), exactly(expected))
            self.assertEqual(plain_mattering(keymap, state, keys, gaps, place), expected)

    def test_one_open(self):
        self.told(PLAIN, (), "jk", "o", 0, "l")
        self.told(PLAIN, (), "xjk", "oo", 1, "ll")
        self.told(PLAIN, (), "xjk", "so", 1, "sl")
        self.told(PLAIN, (), "xjk", "lo", 1, "ll")

    def test_one_that_never_matters(self):
        self.told(PLAIN, (), "xjk", "oo", 0, None)
        self.told(PLAIN, (), "kj", "o", 0, None)
        self.told(binding_just(), (), "jkjk", "ooo", 1, None)
        self.told(PLAIN, (), "jkjk", "sos", 1, None)

    def test_only_with_some_of_the_other_gaps(self):
        keymap = binding_just("abc", "bc")
        self.told(keymap, (), "abc", "oo", 0, "ls")
        self.told(keymap, (), "abc", "oo", 1, "ll")
        self.told(keymap, (), "abc", "ol", 0, None)
        self.told(keymap, (), "abc", "os", 0, "ls")
        keymap = binding_just("abcd")
        for place, expected in enumerate(["lss", "sls", "ssl"]):
            self.told(keymap, (), "abcd", "ooo", place, expected)
        self.told(keymap, (), "abcd", "olo", 0, None)

    def test_only_with_a_long_gap_elsewhere(self):
        # While ab is read as one, the gap behind it means nothing.
        keymap = binding_just("ab", "bc")
        self.told(keymap, (), "abc", "oo", 1, "ll")
        self.told(keymap, (), "abc", "so", 1, None)

    def test_the_first_filling_as_python_sorts(self):
        keymap = binding_just("a", "aa", "aaa")
        self.told(keymap, (), "aaaa", "ooo", 2, "lll")
        self.told(keymap, (), "aaaa", "oso", 2, "lsl")
        keymap = binding_just("ab", "ccd")
        self.told(keymap, (), "abccd", "oooo", 3, "llsl")
        self.told(keymap, (), "abccd", "oooo", 2, "llls")

    def test_a_command_that_changes_the_state(self):
        keymap = (("a",), (), {"on": {"a": True}, "go": {}},
                  ((("xy", {}, "on"), ("jk", {"a": True}, "go")),), WAIT)
        self.told(keymap, (False,), "xyjk", "ooo", 2, "sll")
        self.told(keymap, (False,), "xyjk", "loo", 2, None)
        self.told(keymap, (True,), "xyjk", "ooo", 2, "lll")

    def test_drawn(self):
        drawn = random.Random(141)
        seen = {True: 0, False: 0}
        for keymap, state in draw_many(drawn, 250):
            keys = "".join(drawn.choice("jjklx") for _ in range(drawn.randint(2, 12)))
            gaps = draw_gaps(drawn, len(keys) - 1, 4)
            for place in [place for place, gap in enumerate(gaps) if gap == "o"]:
                expected = plain_mattering(keymap, state, keys, gaps, place)
                seen[expected is None] += 1
                self.told(keymap, state, keys, gaps, place, expected)
        self.assertGreater(min(seen.values()), 50, seen)

    def test_it_fits_the_readings(self):
        drawn = random.Random(142)
        for keymap, state in draw_many(drawn, 150):
            keys = "".join(drawn.choice("jjkl") for _ in range(drawn.randint(2, 9)))
            gaps = draw_gaps(drawn, len(keys) - 1, 5)
            places = [place for place, gap in enumerate(gaps) if gap == "o"]
            never = all(call(mattering, keymap, state, keys, gaps, place) is None for place in places)
            self.assertEqual(never, len(call(readings, keymap, state, keys, gaps)) == 1)


class WrongTest(unittest.TestCase):

    def refused(self, kind, keymap, state, keys, gaps, place=0):
        for function, rest in [(readings, ()), (mattering, (place,))]:
            with self.subTest(function=function.__name__, keys=repr(keys)[:40], gaps=repr(gaps)[:40]):
                with self.assertRaises(ValueError) as caught:
                    call(function, keymap, state, keys, gaps, *rest)
                self.assertIs(type(caught.exception), kind)

    def no_place(self, keys, gaps, place):
        with self.subTest(keys=keys, gaps=gaps, place=repr(place)[:40]):
            with self.assertRaises(ValueError) as caught:
                call(mattering, PLAIN, (), keys, gaps, place)
            self.assertIs(type(caught.exception), NoGaps)

    def test_keys(self):
        for keys in ["", "j" * 13, "J", "jK", "j*", "j k", "1", "j\n", "\n", "\u00e9j", "j" * 2000, "\u0430"]:
            for gaps in ["", "o", "o" * 12, None, "x", len(keys)]:
                self.refused(NoKeys, PLAIN, (), keys, gaps)
        for keys in [None, True, 0, 1, ["j"], ("j", "k"), {}, [], (), 10 ** 19]:
            self.refused(NoKeys, PLAIN, (), keys, "o")

    def test_gaps_of_another_length(self):
        for keys, gaps in [("jk", ""), ("jk", "oo"), ("j", "o"), ("j", "s"), ("jkl", "o"), ("jkl", "ooo"),
                           ("j" * 12, "s" * 12), ("j" * 12, "s" * 10), ("j", " "), ("jk", "s\n"), ("jk", "o" * 2000)]:
            self.refused(NoGaps, PLAIN, (), keys, gaps)

    def test_gaps_of_other_signs(self):
        for gap in ["O", "S", "L", "x", " ", "-", "*", "\n", "0", "\u043e", "\u00f8"]:
            self.refused(NoGaps, PLAIN, (), "jk", gap)
            self.refused(NoGaps, PLAIN, (), "jkl", gap + "o")
            self.refused(NoGaps, PLAIN, (), "jkl", "o" + gap)

    def test_gaps_of_nine_open_places(self):
        self.refused(NoGaps, PLAIN, (), "j" * 10, "o" * 9)
        self.refused(NoGaps, PLAIN, (), "j" * 12, "o" * 11)
        self.refused(NoGaps, PLAIN, (), "j" * 12, "sl" + "o" * 9)
        self.assertEqual(len(call(readings, PLAIN, (), "j" * 12, "sll" + "o" * 8)), 1)
        self.assertIsNone(call(mattering, PLAIN, (), "j" * 12, "sll" + "o" * 8, 10))

    def test_gaps_of_another_kind(self):
        for gaps in [None, True, False, 0, 1, ["o"], ("o",), {"o": "o"}, {0: "o"}, [], (), 10 ** 19, [None]]:
            self.refused(NoGaps, PLAIN, (), "jk", gaps)
            self.refused(NoGaps, PLAIN, (), "j", gaps)

    def test_places(self):
        for place in [1, 2, -1, -2, -4, 4, 5, 100, 10 ** 19, -(10 ** 19), None, True, False, "0", "", [0], (0,), {}]:
            self.no_place("jkjkj", "oslo", place)
        self.no_place("j", "", 0)
        self.no_place("j", "", -1)
        self.no_place("jk", "s", 0)
        self.no_place("jk", "l", 0)
        # True is no 1, though the gap at 1 is open.
        self.no_place("jkl", "oo", True)
        self.no_place("jkl", "oo", False)

    def test_strange_things(self):
        for thing in STRANGE:
            if thing not in ["a", "j", "key", "jkjkj"]:
                self.refused(NoKeys, PLAIN, (), thing, "")
            if thing != "":
                self.refused(NoGaps, PLAIN, (), "j", thing)
            if exactly(thing) not in ["0", "1"]:
                self.no_place("jkl", "oo", thing)
            self.refused(NoMap, thing, (), "j", "")
            self.refused(NoState, KEYMAP, thing, "j", "")

    def test_the_earliest_error(self):
        for keys, gaps, place in [("jk", "o", 0), ("", "o", 0), (None, None, None), ("jk", "x", 9)]:
            for state in [STATES[0], (0, 0), None]:
                self.refused(NoMap, with_part(KEYMAP, 4, True), state, keys, gaps, place)
            for state in [(), (0, 0), None, [False, False]]:
                self.refused(NoState, KEYMAP, state, keys, gaps, place)
        for keys in ["", None, "J", "j" * 13]:
            for gaps in ["", None, "o" * 12]:
                for place in [0, None, 99]:
                    self.refused(NoKeys, PLAIN, (), keys, gaps, place)
        self.refused(NoGaps, PLAIN, (), "jk", "oo", None)


if __name__ == "__main__":
    unittest.main()
