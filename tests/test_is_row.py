"""[4] What a row is, on both sides of each limit."""

import random
import unittest

from keywait.errors import NoMap
from keywait.reading import is_row
from tests.samples import KEYMAP, PLAIN, STRANGE, call, draw_map, draw_row, exactly, with_part

LATEST = 10 ** 9
# The flag b may be changed by commands only, and c is no flag.
KEYS = [("key", "j", 0), ("key", "k", 3)]


class RowTest(unittest.TestCase):

    def good(self, *rows):
        for row in rows:
            with self.subTest(row=repr(row)[:200]):
                self.assertIs(call(is_row, KEYMAP, row), True)

    def bad(self, *rows):
        for row in rows:
            with self.subTest(row=repr(row)[:200]):
                self.assertIs(call(is_row, KEYMAP, row), False)

    def test_rows(self):
        self.good([], KEYS, [("set", "a", True, 0)], KEYS + [("set", "a", False, 3), ("key", "x", 4)])

    def test_drawn_rows(self):
        drawn = random.Random(5)
        for _ in range(200):
            keymap = draw_map(drawn)
            self.assertIs(call(is_row, keymap, draw_row(drawn, keymap)), True)

    def test_three_hundred_and_one(self):
        for entry in [("key", "j", 7), ("set", "a", True, 7)]:
            self.good([entry], [entry] * 299, [entry] * 300)
            self.bad([entry] * 301, [entry] * 1000)

    def test_a_list(self):
        self.bad((), tuple(KEYS), {}, {0: KEYS[0]}, KEYS[0], None, "", "j", 0, True)

    def test_values_of_other_kinds(self):
        for thing in STRANGE:
            with self.subTest(thing=repr(thing)[:60]):
                self.assertIs(call(is_row, KEYMAP, thing), exactly(thing) == exactly([]))
                self.bad([thing], KEYS + [thing])

    def test_times(self):
        for time in [0, 1, LATEST - 1, LATEST]:
            self.good([("key", "j", time)], [("set", "a", True, time)])
        for time in [-1, LATEST + 1, True, False, None, "0", (), [], (0,), 10 ** 20 - 1, -(10 ** 20) + 1]:
            self.bad([("key", "j", time)], [("set", "a", True, time)])
            self.bad([("key", "j", 0), ("key", "j", time)], [("key", "j", time), ("key", "j", LATEST)])

    def test_times_never_decrease(self):
        self.good([("key", "j", 3), ("key", "j", 3)], [("set", "a", True, 3), ("key", "j", 3)])
        self.good([("key", "j", 0), ("set", "a", True, LATEST), ("set", "a", True, LATEST)])
        self.bad([("key", "j", 3), ("key", "j", 2)], [("key", "j", 1), ("key", "j", 0)])
        self.bad([("set", "a", True, 3), ("key", "j", 2)], [("key", "j", 3), ("set", "a", True, 2)])
        self.bad([("set", "a", True, 3), ("set", "a", True, 2)], KEYS + [("key", "j", 2)])
        self.bad([("key", "j", 9), ("key", "j", 5), ("key", "j", 7)])
        self.bad([("key", "j", 1), ("key", "j", 9), ("key", "j", 8)])

    def test_letters(self):
        self.good(*[[("key", letter, 0)] for letter in "ajz"])
        for letter in ["", "jk", "J", "1", " ", "*", "\u00e9", "`", "{", None, True, 0, ("j",), ["j"], {}]:
            self.bad([("key", letter, 0)], KEYS + [("key", letter, 3)])

    def test_flags(self):
        for flag in ["b", "c", "", "aa", "key", None, True, 0, ("a",), ["a"], {"a": True}]:
            self.bad([("set", flag, True, 0)], KEYS + [("set", flag, True, 3)])
        self.assertIs(call(is_row, with_part(KEYMAP, 1, ("a", "b")), [("set", "b", True, 0)]), True)
        self.assertIs(call(is_row, with_part(KEYMAP, 1, ("b",)), [("set", "a", True, 0)]), False)
        self.assertIs(call(is_row, PLAIN, [("set", "a", True, 0)]), False)

    def test_values(self):
        self.good([("set", "a", True, 0)], [("set", "a", False, 0)])
        for value in [0, 1, None, "on", "", (), [], {}, (True,)]:
            self.bad([("set", "a", value, 0)])

    def test_words(self):
        for word in ["", "Key", "keys", "KEY", "set", "text", "do", None, True, 1, ("key",), ["key"], {}]:
            self.bad([(word, "j", 0)], [(word, "a", 0)])
        for word in ["", "Set", "key", "SET", "sets", None, True, 1, ("set",), ["set"]]:
            self.bad([(word, "a", True, 0)], [(word, "j", True, 0)])

    def test_lengths_and_kinds_of_entries(self):
        self.bad([()], [("key",)], [("key", "j")], [("key", "j", 0, 0)], [("key", "j", 0, None)])
        self.bad([("set", "a", True)], [("set", "a", 0)], [("set", "a", True, 0, 0)], [("set",)])
        self.bad([["key", "j", 0]], [["set", "a", True, 0]], [{"key": "j"}], ["key"], [("key", 0, "j")])
        self.bad([KEYS], [tuple(KEYS)], [None], [0], ["key"], ["j"], "key", KEYS + ["j"])

    def test_one_wrong_entry_among_many(self):
        for place in [0, 1, 150, 298, 299]:
            row = [("key", "j", time) for time in range(300)]
            row[place] = ("key", "jk", place)
            self.bad(row)

    def test_no_keymap(self):
        for thing in STRANGE + [KEYMAP[:4], list(KEYMAP), with_part(KEYMAP, 4, True)]:
            for row in [[], KEYS, None]:
                with self.subTest(thing=repr(thing)[:60]), self.assertRaises(NoMap):
                    call(is_row, thing, row)


if __name__ == "__main__":
    unittest.main()
