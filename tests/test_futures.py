"""[7] Splits: two continuations of held keys that decide differently."""

import random
import unittest
from itertools import product

from keywait.errors import NoKeys, NoMap, NoState
from keywait.futures import futures, is_split
from keywait.maps import bound
from tests.samples import (
    KEYMAP, PLAIN, STRANGE, WAIT, binding_just, call, draw_many, exactly, plain_read, typed,
)

SHORT = ["".join(letters) for many in range(1, 4) for letters in product("jklx", repeat=many)]


def first(keymap, state, letters):
    """The first event of a burst of these letters with silence behind it."""
    return plain_read(keymap, state, typed(letters))[0][0]


class FuturesTest(unittest.TestCase):

    def splits(self, keymap, state, held):
        """There is a split, of the form that is promised, and it is one by the words of [7]."""
        told = call(futures, keymap, state, held)
        self.assertTrue(isinstance(told, tuple) and len(told) == 2)
        for letters in told:
            self.assertTrue(isinstance(letters, str) and len(letters) <= 4 and set(letters) <= set("abcdjklmnoxyz"))
        self.assertNotEqual(first(keymap, state, held + told[0]), first(keymap, state, held + told[1]))
        self.assertIs(call(is_split, keymap, state, held, told), True)

    def test_ordinary(self):
        self.splits(PLAIN, (), "j")
        for held in ["k", "x", "jk", "jj", "kj", "jkj", "jkk", "xj"]:
            with self.subTest(held=held):
                self.assertIsNone(call(futures, PLAIN, (), held))

    def test_each_prefix(self):
        keymap = binding_just("abcd", "ab", "b", "bcd", "xyz")
        for held in ["a", "ab", "abc", "b", "bc", "x", "xy"]:
            with self.subTest(held=held):
                self.splits(keymap, (), held)
        for held in ["bcd", "xyz", "c", "d", "abd", "cd", "y", "z", "ba", "axy", "aa"]:
            with self.subTest(held=held):
                self.assertIsNone(call(futures, keymap, (), held))

    def test_only_what_is_bound_in_the_state(self):
        self.splits(KEYMAP, (False, True), "j")
        self.splits(KEYMAP, (True, True), "j")
        self.assertIsNone(call(futures, KEYMAP, (False, False), "j"))
        self.assertIsNone(call(futures, KEYMAP, (True, False), "j"))

    def test_not_what_none_unbinds(self):
        keymap = ((), (), {"go": {}}, ((("jk", {}, None), ("jk", {}, "go"), ("j", {}, "go")),), WAIT)
        self.assertIsNone(call(futures, keymap, (), "j"))

    def test_nothing_bound(self):
        for held in SHORT:
            self.assertIsNone(call(futures, binding_just(), (), held))

    def test_drawn(self):
        drawn = random.Random(7)
        found = {True: 0, False: 0}
        for keymap, state in draw_many(drawn, 60):
            table = bound(keymap, state)
            for held in SHORT:
                waits = any(keys.startswith(held) and len(keys) > len(held) for keys in table)
                found[waits] += 1
                if waits:
                    self.splits(keymap, state, held)
                else:
                    self.assertIsNone(call(futures, keymap, state, held))
        self.assertGreater(min(found.values()), 200)


class SplitTest(unittest.TestCase):

    def test_true(self):
        for thing in [("", "k"), ("k", ""), ("k", "x"), ("j", "k"), ("kk", "jk"), ("kxyz", "xkyz"), ("", "kxyz"),
                      ("jjjj", "kkkk")]:
            with self.subTest(thing=thing):
                self.assertIs(call(is_split, PLAIN, (), "j", thing), True)

    def test_the_same_first_event(self):
        for thing in [("", ""), ("k", "k"), ("", "x"), ("j", ""), ("x", "jk"), ("k", "kk"), ("k", "kxyz"), ("x", "y")]:
            with self.subTest(thing=thing):
                self.assertIs(call(is_split, PLAIN, (), "j", thing), False)

    def test_other_forms(self):
        for thing in [("", "kxyzx"), ("kxyzx", ""), ("", "kkkkkkkk"), ["", "k"], ("", "k", ""), ("k",), (), ("", "K"),
                      ("", "k "), ("", "k1"), ("\n", "k"), ("", "k\u00e9"), ("", None), (None, "k"), ("", ["k"]),
                      ("", ("k",)), ("", b"k"), (0, "k"), (False, "k"), ((), "k"), ([], "k"), "k", "xk", "", {"": "k"},
                      {}, [["", "k"]], (("", "k"),), ("", 1)]:
            with self.subTest(thing=thing):
                self.assertIs(call(is_split, PLAIN, (), "j", thing), False)

    def test_strange_things(self):
        for thing in STRANGE:
            with self.subTest(thing=repr(thing)[:60]):
                self.assertIs(call(is_split, PLAIN, (), "j", thing), False)
                self.assertIs(call(is_split, PLAIN, (), "j", (thing, "k")), thing in ("", "a", "j"))

    def test_four_letters_behind_three(self):
        keymap = binding_just("abcd", "ab", "cdef")
        self.assertIs(call(is_split, keymap, (), "abc", ("defg", "abcd")), True)
        self.assertIs(call(is_split, keymap, (), "abc", ("efgh", "abcd")), False)

    def test_sequences_that_are_prefixes_of_others(self):
        keymap = binding_just("a", "ab", "abc", "abcd")
        for held, thing in [("a", ("", "b")), ("a", ("b", "bc")), ("a", ("bc", "bcd")), ("a", ("x", "bx")),
                            ("ab", ("", "c")), ("ab", ("c", "cd")), ("abc", ("", "d")), ("abc", ("x", "dx"))]:
            with self.subTest(held=held, thing=thing):
                self.assertIs(call(is_split, keymap, (), held, thing), True)
        for held, thing in [("a", ("", "c")), ("ab", ("", "b")), ("ab", ("cx", "c")), ("abc", ("x", "")),
                            ("abc", ("d", "dabc")), ("b", ("", "a")), ("bab", ("", "cd"))]:
            with self.subTest(held=held, thing=thing):
                self.assertIs(call(is_split, keymap, (), held, thing), False)

    def test_held_letters_that_are_a_whole_sequence(self):
        keymap = binding_just("ab", "abcd")
        self.assertIs(call(is_split, keymap, (), "ab", ("", "cd")), True)
        self.assertIs(call(is_split, keymap, (), "ab", ("", "c")), False)
        self.assertIs(call(is_split, PLAIN, (), "jk", ("", "k")), False)
        self.assertIsNone(call(futures, PLAIN, (), "jk"))

    def test_held_letters_that_nobody_would_hold(self):
        # The first event is settled by the held letters alone, whatever follows.
        for held in ["x", "xj", "jkj", "xxj"]:
            for thing in [("", "k"), ("k", "x"), ("", "kkkk")]:
                self.assertIs(call(is_split, PLAIN, (), held, thing), False)

    def test_an_event_with_other_keys_is_another_event(self):
        keymap = ((), (), {"go": {}}, ((("j", {}, "go"), ("jk", {}, "go")),), WAIT)
        self.assertIs(call(is_split, keymap, (), "j", ("", "k")), True)
        self.assertIs(call(is_split, keymap, (), "j", ("j", "x")), False)

    def test_drawn(self):
        drawn = random.Random(71)
        found = {True: 0, False: 0}
        for keymap, state in draw_many(drawn, 80):
            begun = [keys[:3] for keys in bound(keymap, state)] + ["j", "k", "x"]
            for _ in range(60):
                held = drawn.choice(begun)[:drawn.randint(1, 3)]
                thing = tuple("".join(drawn.choice("jjkl") for _ in range(drawn.randint(0, 5))) for _ in range(2))
                right = max(len(thing[0]), len(thing[1])) <= 4 and (
                    first(keymap, state, held + thing[0]) != first(keymap, state, held + thing[1]))
                found[right] += 1
                self.assertIs(call(is_split, keymap, state, held, thing), right)
        self.assertGreater(min(found.values()), 150)


class WrongTest(unittest.TestCase):

    def refused(self, kind, *arguments):
        for function, rest in [(futures, ()), (is_split, (("", "k"),)), (is_split, (None,))]:
            with self.subTest(function=function.__name__, arguments=repr(arguments)[-60:]):
                with self.assertRaises(ValueError) as caught:
                    call(function, *arguments, *rest)
                self.assertIs(type(caught.exception), kind)

    def test_no_held_letters(self):
        for held in ["", "jkjk", "jkjkj", "J", "j1", "j ", "-", "\u00e9", None, 0, True, ["j"], ("j",), b"j", {}, []]:
            self.refused(NoKeys, PLAIN, (), held)
        for thing in STRANGE:
            if thing not in ["a", "j", "key"]:
                self.refused(NoKeys, PLAIN, (), thing)

    def test_the_earliest_error(self):
        for held in ["j", "", None]:
            for state in [(), (0,), None]:
                self.refused(NoMap, PLAIN[:4], state, held)
            for state in [(0,), None, [], (True, True)]:
                self.refused(NoState, PLAIN, state, held)

    def test_kinds(self):
        self.assertEqual(exactly(call(is_split, PLAIN, (), "j", ("", "k"))), "True")
        self.assertEqual(exactly(call(is_split, PLAIN, (), "j", ("", "x"))), "False")


if __name__ == "__main__":
    unittest.main()
