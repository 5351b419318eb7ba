"""[1] Integers and booleans, and what is returned: new, and of just the listed kinds."""

import random
import unittest

from keywait.changes import changes, spare
from keywait.compare import compare, is_agreement
from keywait.doing import is_table, least_keys
from keywait.errors import NoMap, NoRow, NoState
from keywait.futures import futures
from keywait.gaps import mattering, readings
from keywait.kinds import is_boolean, is_integer, is_keys, is_letter, is_name, is_within
from keywait.machines import machine, parting
from keywait.maps import after, bound, is_map, is_state, winner
from keywait.reach import firing, is_closed, reachable
from keywait.reading import is_row, read
from keywait.texts import read_map, write_map
from keywait.typist import is_apart, type_text
from tests.pairs import draw_pairs
from tests.samples import (
    KEYMAP, STATES, STRANGE, call, draw_map, draw_row, draw_state, exactly, with_binding, with_part,
)

STATE = (True, False)
TWO = ("a", "b")


def parts_of(thing):
    """All lists and dicts in the thing, each as often as it stands there."""
    found = [thing] if isinstance(thing, (list, dict)) else []
    if isinstance(thing, dict):
        thing = list(thing.values())
    if isinstance(thing, (list, tuple)):
        for one in thing:
            found += parts_of(one)
    return found


class BooleansTest(unittest.TestCase):

    def test_no_boolean_for_an_integer(self):
        for value in [True, False]:
            with self.subTest(value=value):
                self.assertIs(call(is_map, with_part(KEYMAP, 4, value)), False)
                self.assertIs(call(is_row, KEYMAP, [("key", "j", value)]), False)
                self.assertIs(call(is_row, KEYMAP, [("set", "a", True, value)]), False)
                self.assertIs(call(is_row, KEYMAP, [("key", "j", 0), ("key", "j", value)]), False)

    def test_no_integer_for_a_boolean(self):
        for value in [0, 1]:
            with self.subTest(value=value):
                self.assertIs(call(is_map, with_binding(("j", {"a": value}, "go"))), False)
                self.assertIs(call(is_map, with_binding(("j", {"a": True, "b": value}, "go"), TWO)), False)
                self.assertIs(call(is_map, with_part(KEYMAP, 2, {"go": {"a": value}})), False)
                self.assertIs(call(is_state, KEYMAP, (value, True)), False)
                self.assertIs(call(is_state, KEYMAP, (True, value)), False)
                self.assertIs(call(is_row, KEYMAP, [("set", "a", value, 0)]), False)

    def test_the_same_raises(self):
        for value in [0, 1]:
            for function, rest in [(winner, ("j",)), (bound, ()), (after, ("go",)), (read, ([],))]:
                with self.subTest(value=value, function=function.__name__):
                    with self.assertRaises(NoState):
                        call(function, KEYMAP, (True, value), *rest)
                    with self.assertRaises(NoMap):
                        call(function, with_part(KEYMAP, 4, bool(value)), STATE, *rest)
                    with self.assertRaises(NoMap):
                        call(function, with_binding(("j", {"a": value}, "go")), (True,), *rest)
            for entry in [("set", "a", value, 0), ("set", "a", True, bool(value)), ("key", "j", bool(value))]:
                with self.assertRaises(NoRow):
                    call(read, KEYMAP, STATE, [entry])

    def test_kinds(self):
        for thing in STRANGE:
            with self.subTest(thing=repr(thing)[:60]):
                self.assertIs(is_boolean(thing), repr(thing) in ["True", "False"])
                self.assertIs(is_integer(thing), type(thing) is int)
                self.assertIs(is_letter(thing), thing in ["a", "j"])
                self.assertIs(is_keys(thing), thing in ["a", "j", "key"])
                self.assertIs(is_name(thing), thing in ["a", "j", "key", "jkjkj"])
                self.assertIs(is_within(thing, 0, 1), repr(thing) in ["0", "1"])


class ReturnedTest(unittest.TestCase):

    def test_states_hold_booleans_only(self):
        drawn = random.Random(1)
        for _ in range(200):
            keymap = draw_map(drawn)
            state = draw_state(drawn, keymap)
            made = [call(after, keymap, state, command) for command in keymap[2]]
            made.append(call(read, keymap, state, draw_row(drawn, keymap))[1])
            for one in made:
                self.assertTrue(isinstance(one, tuple) and len(one) == len(keymap[0]))
                self.assertTrue(all(value is True or value is False for value in one))

    def test_kinds_of_what_is_returned(self):
        self.assertEqual(exactly(call(winner, KEYMAP, STATE, "j")), exactly((0, 0)))
        self.assertEqual(exactly(call(bound, KEYMAP, STATE)), exactly({"j": "go"}))
        self.assertEqual(exactly(call(after, KEYMAP, STATE, "up")), exactly((True, True)))
        self.assertIs(call(is_map, KEYMAP), True)
        self.assertIs(call(is_row, KEYMAP, []), True)
        self.assertIs(call(is_state, KEYMAP, STATE), True)

    def test_each_list_and_dict_stands_at_one_place(self):
        drawn = random.Random(2)
        for keymap, other, state in draw_pairs(drawn, 60):
            names = tuple(sorted(keymap[2])[:2])
            calls = [
                (bound, keymap, state), (read, keymap, state, draw_row(drawn, keymap)), (reachable, keymap, state),
                (compare, keymap, other, state), (changes, keymap, other, state), (spare, keymap, state),
                (type_text, keymap, state, "jklxkjl"), (readings, keymap, state, "jkljx", "olso"),
                (mattering, keymap, state, "jkl", "oo", 1), (machine, keymap, state), (futures, keymap, state, "j"),
                (parting, keymap, state, 0, len(machine(keymap, state)) - 1), (read_map, write_map(keymap)),
            ]
            calls += [(least_keys, keymap, state, names)] if names else []
            calls += [(firing, keymap, state, layer, index) for layer, row in enumerate(keymap[3])
                      for index, binding in enumerate(row) if binding[2] is not None]
            for function, *arguments in calls:
                with self.subTest(function=function.__name__):
                    expected = call(function, *arguments)
                    found = parts_of(function(*arguments))
                    self.assertEqual(len({id(one) for one in found}), len(found))
                    given = {id(one) for one in parts_of(arguments)}
                    self.assertFalse(given & {id(one) for one in found})
                    for one in found:
                        one.clear()
                    self.assertEqual(exactly(call(function, *arguments)), exactly(expected))

    def test_what_was_returned_may_be_passed_again(self):
        drawn = random.Random(3)
        for keymap, other, state in draw_pairs(drawn, 60):
            found = reachable(keymap, state)
            for here, (_, row) in found.items():
                self.assertEqual(call(read, keymap, state, row)[1], here)
            self.assertIs(call(is_closed, keymap, state, sorted(found)), True)
            word, told = compare(keymap, other, state)
            self.assertIs(call(is_agreement, keymap, other, state, told), word == "same")
            for told in type_text(keymap, state, "jkxlk")[2:]:
                self.assertIs(call(is_apart, keymap, state, "jkxlk", told), True)
            for name in keymap[2]:
                self.assertIs(call(is_table, keymap, (name,), least_keys(keymap, state, (name,))[2]), True)
            self.assertIs(call(is_map, read_map(write_map(keymap))), True)

    def test_no_returned_dict_is_one_of_the_arguments(self):
        for state in STATES:
            table = call(bound, KEYMAP, state)
            table.clear()
            self.assertNotEqual(call(bound, KEYMAP, state), {})

    def test_the_order_of_a_dict_means_nothing(self):
        drawn = random.Random(6)
        for _ in range(100):
            keymap = draw_map(drawn)
            state, row = draw_state(drawn, keymap), draw_row(drawn, keymap)
            turned = with_part(keymap, 2, {
                name: dict(reversed(keymap[2][name].items())) for name in reversed(keymap[2])})
            turned = with_part(turned, 3, tuple(
                tuple((keys, dict(reversed(condition.items())), command) for keys, condition, command in layer)
                for layer in keymap[3]))
            self.assertEqual(call(read, keymap, state, row), call(read, turned, state, row))
            self.assertEqual(call(bound, keymap, state), call(bound, turned, state))

    def test_calls_do_not_depend_on_earlier_ones(self):
        keymap = with_part(KEYMAP, 2, {"go": {}, "up": {"b": True}, "off": {"a": False}})
        self.assertEqual(call(after, keymap, (True, True), "off"), (False, True))
        keymap[2]["off"]["b"] = False
        self.assertEqual(call(after, keymap, (True, True), "off"), (False, False))
        del keymap[2]["off"]
        self.assertIs(call(is_map, keymap), False)


if __name__ == "__main__":
    unittest.main()
