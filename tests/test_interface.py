"""The interface: names, arguments, where they are defined, and which error comes first."""

import inspect
import unittest

from keywait import maps, reading
from keywait.errors import NoCommand, NoKeys, NoMap, NoRow, NoState
from tests.samples import KEYMAP, STRANGE, call

ENTRIES = [
    (maps, "is_map", ["thing"]),
    (maps, "is_state", ["keymap", "thing"]),
    (maps, "winner", ["keymap", "state", "keys"]),
    (maps, "bound", ["keymap", "state"]),
    (maps, "after", ["keymap", "state", "command"]),
    (reading, "is_row", ["keymap", "thing"]),
    (reading, "read", ["keymap", "state", "row"]),
]
STATE = (True, False)
NO_MAP = KEYMAP[:4] + (True,)
NO_STATE = (1, 0)

# For each function: good arguments, and for each argument wrong values and their error.
CASES = [
    (maps.is_state, (KEYMAP, STATE), [(NO_MAP, NoMap)]),
    (maps.bound, (KEYMAP, STATE), [(NO_MAP, NoMap), (NO_STATE, NoState)]),
    (maps.winner, (KEYMAP, STATE, "j"),
     [(NO_MAP, NoMap), (NO_STATE, NoState), ("jkjkj", NoKeys)]),
    (maps.after, (KEYMAP, STATE, "go"),
     [(NO_MAP, NoMap), (NO_STATE, NoState), ("gone", NoCommand)]),
    (reading.is_row, (KEYMAP, []), [(NO_MAP, NoMap)]),
    (reading.read, (KEYMAP, STATE, []),
     [(NO_MAP, NoMap), (NO_STATE, NoState), ([("key", "j", True)], NoRow)]),
]


class InterfaceTest(unittest.TestCase):

    def refused(self, kind, function, *arguments):
        """The function raises an error of just this class, and changes no argument."""
        with self.assertRaises(ValueError) as caught:
            call(function, *arguments)
        self.assertIs(type(caught.exception), kind)

    def test_names_arguments_and_files(self):
        for module, name, parameters in ENTRIES:
            with self.subTest(name=name):
                function = getattr(module, name)
                self.assertTrue(inspect.isfunction(function))
                self.assertEqual(function.__module__, module.__name__)
                self.assertEqual(list(inspect.signature(function).parameters), parameters)

    def test_good_arguments_raise_nothing(self):
        for function, good, _ in CASES:
            with self.subTest(function=function.__name__):
                call(function, *good)

    def test_each_wrong_argument_alone(self):
        for function, good, wrongs in CASES:
            for place, (wrong, kind) in enumerate(wrongs):
                with self.subTest(function=function.__name__, place=place):
                    arguments = good[:place] + (wrong,) + good[place + 1:]
                    self.refused(kind, function, *arguments)

    def test_of_several_wrong_arguments_the_earliest(self):
        for function, good, wrongs in CASES:
            for first, (_, kind) in enumerate(wrongs):
                with self.subTest(function=function.__name__, first=first):
                    arguments = good[:first] + tuple(wrong for wrong, _ in wrongs[first:])
                    self.refused(kind, function, *arguments, *good[len(arguments):])

    def test_the_earliest_with_a_good_one_between(self):
        self.refused(NoMap, maps.winner, NO_MAP, STATE, 1)
        self.refused(NoMap, maps.after, NO_MAP, STATE, None)
        self.refused(NoMap, reading.read, NO_MAP, STATE, None)

    def test_a_strange_thing_beside_no_keymap(self):
        for thing in STRANGE:
            with self.subTest(thing=repr(thing)[:60]):
                self.refused(NoMap, maps.is_state, NO_MAP, thing)
                self.refused(NoMap, reading.is_row, NO_MAP, thing)

    def test_strange_values_for_each_argument(self):
        for function, good, wrongs in CASES:
            for place, (_, kind) in enumerate(wrongs):
                if place == 2 and function in (maps.winner, reading.read):
                    continue
                for thing in STRANGE:
                    with self.subTest(function=function.__name__, thing=repr(thing)[:60]):
                        arguments = good[:place] + (thing,) + good[place + 1:]
                        self.refused(kind, function, *arguments)

    def test_strange_keys_and_rows(self):
        for thing in STRANGE:
            with self.subTest(thing=repr(thing)[:60]):
                if thing not in ["a", "j", "key"]:
                    self.refused(NoKeys, maps.winner, KEYMAP, STATE, thing)
                if thing != []:
                    self.refused(NoRow, reading.read, KEYMAP, STATE, thing)


if __name__ == "__main__":
    unittest.main()
