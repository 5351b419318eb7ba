"""[1] Integers and booleans, and what is returned: new, and of just the listed kinds."""

import random
import unittest

from keywait.errors import NoMap, NoRow, NoState
from keywait.kinds import is_boolean, is_integer, is_keys, is_letter, is_name, is_within
from keywait.maps import after, bound, is_map, is_state, winner
from keywait.reading import is_row, read
from tests.samples import (
    KEYMAP, STATES, STRANGE, call, draw_map, draw_row, draw_state, exactly, with_binding, with_part,
)

STATE = (True, False)
TWO = ("a", "b")


class BooleansTest(unittest.TestCase):

    def test_no_boolean_for_an_integer(self):
        for value in [True, False]:
            with self.subTest(value=value):
                self.assertIs(call(is_map, with_part(KEYMAP, 4, value)), False)
                self.assertIs(call(is_row, KEYMAP, [("key", "j", value)]), False)
                self.assertIs(call(is_row, KEYMAP, [("set", "a", True, value)]), False)
                self.assertIs(call(is_row, KEYMAP, [("key", "j", 0), ("key", "j", value)]), False)

    def test_no_integer_for_a_boolean(self):
        for value in [0, 1]:
            with self.subTest(value=value):
                self.assertIs(call(is_map, with_binding(("j", {"a": value}, "go"))), False)
                self.assertIs(call(is_map, with_binding(("j", {"a": True, "b": value}, "go"), TWO)), False)
                self.assertIs(call(is_map, with_part(KEYMAP, 2, {"go": {"a": value}})), False)
                self.assertIs(call(is_state, KEYMAP, (value, True)), False)
                self.assertIs(call(is_state, KEYMAP, (True, value)), False)
                self.assertIs(call(is_row, KEYMAP, [("set", "a", value, 0)]), False)

    def test_the_same_raises(self):
        for value in [0, 1]:
            for function, rest in [(winner, ("j",)), (bound, ()), (after, ("go",)), (read, ([],))]:
                with self.subTest(value=value, function=function.__name__):
                    with self.assertRaises(NoState):
                        call(function, KEYMAP, (True, value), *rest)
                    with self.assertRaises(NoMap):
                        call(function, with_part(KEYMAP, 4, bool(value)), STATE, *rest)
                    with self.assertRaises(NoMap):
                        call(function, with_binding(("j", {"a": value}, "go")), (True,), *rest)
            for entry in [("set", "a", value, 0), ("set", "a", True, bool(value)), ("key", "j", bool(value))]:
                with self.assertRaises(NoRow):
                    call(read, KEYMAP, STATE, [entry])

    def test_kinds(self):
        for thing in STRANGE:
            with self.subTest(thing=repr(thing)[:60]):
                self.assertIs(is_boolean(thing), repr(thing) in ["True", "False"])
                self.assertIs(is_integer(thing), type(thing) is int)
                self.assertIs(is_letter(thing), thing in ["a", "j"])
                self.assertIs(is_keys(thing), thing in ["a", "j", "key"])
                self.assertIs(is_name(thing), thing in ["a", "j", "key", "jkjkj"])
                self.assertIs(is_within(thing, 0, 1), repr(thing) in ["0", "1"])


class ReturnedTest(unittest.TestCase):

    def test_states_hold_booleans_only(self):
        drawn = random.Random(1)
        for _ in range(200):
            keymap = draw_map(drawn)
            state = draw_state(drawn, keymap)
            made = [call(after, keymap, state, command) for command in keymap[2]]
            made.append(call(read, keymap, state, draw_row(drawn, keymap))[1])
            for one in made:
                self.assertTrue(isinstance(one, tuple) and len(one) == len(keymap[0]))
                self.assertTrue(all(value is True or value is False for value in one))

    def test_kinds_of_what_is_returned(self):
        self.assertEqual(exactly(call(winner, KEYMAP, STATE, "j")), exactly((0, 0)))
        self.assertEqual(exactly(call(bound, KEYMAP, STATE)), exactly({"j": "go"}))
        self.assertEqual(exactly(call(after, KEYMAP, STATE, "up")), exactly((True, True)))
        self.assertIs(call(is_map, KEYMAP), True)
        self.assertIs(call(is_row, KEYMAP, []), True)
        self.assertIs(call(is_state, KEYMAP, STATE), True)

    def test_no_returned_dict_is_one_of_the_arguments(self):
        for state in STATES:
            table = call(bound, KEYMAP, state)
            table.clear()
            self.assertNotEqual(call(bound, KEYMAP, state), {})

    def test_the_order_of_a_dict_means_nothing(self):
        drawn = random.Random(6)
        for _ in range(100):
            keymap = draw_map(drawn)
            state, row = draw_state(drawn, keymap), draw_row(drawn, keymap)
            turned = with_part(keymap, 2, {
                name: dict(reversed(keymap[2][name].items())) for name in reversed(keymap[2])})
            turned = with_part(turned, 3, tuple(
                tuple((keys, dict(reversed(condition.items())), command) for keys, condition, command in layer)
                for layer in keymap[3]))
            self.assertEqual(call(read, keymap, state, row), call(read, turned, state, row))
            self.assertEqual(call(bound, keymap, state), call(bound, turned, state))

    def test_calls_do_not_depend_on_earlier_ones(self):
        keymap = with_part(KEYMAP, 2, {"go": {}, "up": {"b": True}, "off": {"a": False}})
        self.assertEqual(call(after, keymap, (True, True), "off"), (False, True))
        keymap[2]["off"]["b"] = False
        self.assertEqual(call(after, keymap, (True, True), "off"), (False, False))
        del keymap[2]["off"]
        self.assertIs(call(is_map, keymap), False)


if __name__ == "__main__":
    unittest.main()
