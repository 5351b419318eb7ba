"""The interface: names, arguments, where they are defined, and which error comes first."""

import inspect
import unittest

from keywait import (
    changes, compare, doing, futures, gaps, machines, maps, reach, reader, reading, texts, typist,
)
from keywait.errors import (
    NoBinding, NoCommand, NoFlag, NoGaps, NoKeys, NoMap, NoNumber, NoRow, NoState, NoText, NoTime, Unlike,
)
from tests.samples import KEYMAP, PLAIN, STRANGE, call, with_part

ENTRIES = [
    (maps, "is_map", ["thing"]),
    (maps, "is_state", ["keymap", "thing"]),
    (maps, "winner", ["keymap", "state", "keys"]),
    (maps, "bound", ["keymap", "state"]),
    (maps, "after", ["keymap", "state", "command"]),
    (reading, "is_row", ["keymap", "thing"]),
    (reading, "read", ["keymap", "state", "row"]),
    (futures, "futures", ["keymap", "state", "held"]),
    (futures, "is_split", ["keymap", "state", "held", "thing"]),
    (reach, "reachable", ["keymap", "state"]),
    (reach, "is_closed", ["keymap", "state", "thing"]),
    (reach, "firing", ["keymap", "state", "layer", "index"]),
    (reach, "is_never", ["keymap", "state", "layer", "index", "thing"]),
    (compare, "compare", ["one", "other", "state"]),
    (compare, "is_agreement", ["one", "other", "state", "thing"]),
    (changes, "changes", ["before", "after", "state"]),
    (changes, "spare", ["keymap", "state"]),
    (typist, "type_text", ["keymap", "state", "text"]),
    (typist, "is_apart", ["keymap", "state", "text", "thing"]),
    (doing, "least_keys", ["keymap", "state", "names"]),
    (doing, "is_table", ["keymap", "names", "thing"]),
    (gaps, "readings", ["keymap", "state", "keys", "gaps"]),
    (gaps, "mattering", ["keymap", "state", "keys", "gaps", "place"]),
    (machines, "machine", ["keymap", "state"]),
    (machines, "parting", ["keymap", "state", "one", "other"]),
    (texts, "write_map", ["keymap"]),
    (texts, "read_map", ["text"]),
]
METHODS = {
    "__init__": ["keymap", "state"],
    "key": ["letter", "time"],
    "change": ["flag", "value", "time"],
    "advance": ["time"],
    "finish": [],
    "held": [],
    "state": [],
    "used": [],
    "calls": [],
    "swap": ["keymap"],
    "back": ["count"],
}
STATE = (True, False)
NO_MAP = KEYMAP[:4] + (True,)
NO_STATE = (1, 0)

# For each function: good arguments, and for each argument wrong values and their error.
CASES = [
    (maps.is_state, (KEYMAP, STATE), [(NO_MAP, NoMap)]),
    (maps.bound, (KEYMAP, STATE), [(NO_MAP, NoMap), (NO_STATE, NoState)]),
    (maps.winner, (KEYMAP, STATE, "j"),
     [(NO_MAP, NoMap), (NO_STATE, NoState), ("jkjkj", NoKeys)]),
    (maps.after, (KEYMAP, STATE, "go"),
     [(NO_MAP, NoMap), (NO_STATE, NoState), ("gone", NoCommand)]),
    (reading.is_row, (KEYMAP, []), [(NO_MAP, NoMap)]),
    (reading.read, (KEYMAP, STATE, []),
     [(NO_MAP, NoMap), (NO_STATE, NoState), ([("key", "j", True)], NoRow)]),
    (futures.futures, (KEYMAP, STATE, "j"),
     [(NO_MAP, NoMap), (NO_STATE, NoState), ("jkjk", NoKeys)]),
    (futures.is_split, (KEYMAP, STATE, "j", None),
     [(NO_MAP, NoMap), (NO_STATE, NoState), ("", NoKeys)]),
    (reach.reachable, (KEYMAP, STATE), [(NO_MAP, NoMap), (NO_STATE, NoState)]),
    (reach.is_closed, (KEYMAP, STATE, None), [(NO_MAP, NoMap), (NO_STATE, NoState)]),
    (reach.firing, (KEYMAP, STATE, 0, 0),
     [(NO_MAP, NoMap), (NO_STATE, NoState), (True, NoBinding), (3, NoBinding)]),
    (reach.is_never, (KEYMAP, STATE, 0, 0, None),
     [(NO_MAP, NoMap), (NO_STATE, NoState), (-1, NoBinding), (None, NoBinding)]),
    (reader.Reader, (KEYMAP, STATE), [(NO_MAP, NoMap), (NO_STATE, NoState)]),
    (compare.compare, (KEYMAP, KEYMAP, STATE), [(NO_MAP, NoMap), (NO_MAP, NoMap), (NO_STATE, NoState)]),
    (compare.is_agreement, (KEYMAP, KEYMAP, STATE, None), [(NO_MAP, NoMap), (NO_MAP, NoMap), (NO_STATE, NoState)]),
    (changes.changes, (KEYMAP, KEYMAP, STATE), [(NO_MAP, NoMap), (NO_MAP, NoMap), (NO_STATE, NoState)]),
    (changes.spare, (KEYMAP, STATE), [(NO_MAP, NoMap), (NO_STATE, NoState)]),
    (typist.type_text, (KEYMAP, STATE, "j"), [(NO_MAP, NoMap), (NO_STATE, NoState), ("", NoKeys)]),
    (typist.is_apart, (KEYMAP, STATE, "j", None), [(NO_MAP, NoMap), (NO_STATE, NoState), ("", NoKeys)]),
    (doing.least_keys, (KEYMAP, STATE, ("go",)), [(NO_MAP, NoMap), (NO_STATE, NoState), (("gone",), NoCommand)]),
    (doing.is_table, (KEYMAP, ("go",), None), [(NO_MAP, NoMap), (["go"], NoCommand)]),
    (gaps.readings, (KEYMAP, STATE, "jk", "o"),
     [(NO_MAP, NoMap), (NO_STATE, NoState), ("", NoKeys), ("oo", NoGaps)]),
    (gaps.mattering, (KEYMAP, STATE, "jk", "o", 0),
     [(NO_MAP, NoMap), (NO_STATE, NoState), ("jK", NoKeys), ("x", NoGaps), (False, NoGaps)]),
    (machines.machine, (KEYMAP, STATE), [(NO_MAP, NoMap), (NO_STATE, NoState)]),
    (machines.parting, (KEYMAP, STATE, 0, 0),
     [(NO_MAP, NoMap), (NO_STATE, NoState), (99, NoNumber), (None, NoNumber)]),
    (texts.write_map, (KEYMAP,), [(NO_MAP, NoMap)]),
    (texts.read_map, (texts.write_map(KEYMAP),), [("", NoText)]),
]

# The same for the methods of a Reader that has passed the time 3.
METHOD_CASES = [
    ("key", ("j", 3), [("jk", NoKeys), (2, NoTime)]),
    ("change", ("a", True, 3), [("b", NoFlag), (1, NoFlag), (2, NoTime)]),
    ("advance", (3,), [(2, NoTime)]),
    ("back", (1,), [(2, NoNumber)]),
    ("swap", (KEYMAP,), [(NO_MAP, NoMap)]),
    ("swap", (with_part(KEYMAP, 3, ((),)),), [(PLAIN, Unlike)]),
]


class InterfaceTest(unittest.TestCase):

    def refused(self, kind, function, *arguments):
        """The function raises an error of just this class, and changes no argument."""
        with self.assertRaises(ValueError) as caught:
            call(function, *arguments)
        self.assertIs(type(caught.exception), kind)

    def test_names_arguments_and_files(self):
        for module, name, parameters in ENTRIES:
            with self.subTest(name=name):
                function = getattr(module, name)
                self.assertTrue(inspect.isfunction(function))
                self.assertEqual(function.__module__, module.__name__)
                self.assertEqual(list(inspect.signature(function).parameters), parameters)

    def test_the_methods_of_a_reader(self):
        self.assertTrue(inspect.isclass(reader.Reader))
        self.assertEqual(reader.Reader.__module__, "keywait.reader")
        for name, parameters in METHODS.items():
            with self.subTest(name=name):
                method = vars(reader.Reader)[name]
                self.assertTrue(inspect.isfunction(method))
                self.assertEqual(list(inspect.signature(method).parameters)[1:], parameters)
        public = {name for name in vars(reader.Reader) if not name.startswith("_")}
        self.assertEqual(public, set(METHODS) - {"__init__"})

    def test_wrong_arguments_of_the_methods(self):
        for name, good, wrongs in METHOD_CASES:
            for first, (_, kind) in enumerate(wrongs):
                for last in range(first, len(wrongs)):
                    arguments = good[:first] + tuple(wrong for wrong, _ in wrongs[first:last + 1]) + good[last + 1:]
                    with self.subTest(name=name, arguments=repr(arguments)[:60]):
                        one = reader.Reader(KEYMAP, STATE)
                        one.advance(3)
                        self.refused(kind, getattr(one, name), *arguments)
                        self.assertEqual(one.calls(), 1)
                        call(getattr(one, name), *good)

    def test_good_arguments_raise_nothing(self):
        for function, good, _ in CASES:
            with self.subTest(function=function.__name__):
                call(function, *good)

    def test_each_wrong_argument_alone(self):
        for function, good, wrongs in CASES:
            for place, (wrong, kind) in enumerate(wrongs):
                with self.subTest(function=function.__name__, place=place):
                    arguments = good[:place] + (wrong,) + good[place + 1:]
                    self.refused(kind, function, *arguments)

    def test_of_several_wrong_arguments_the_earliest(self):
        for function, good, wrongs in CASES:
            for first, (_, kind) in enumerate(wrongs):
                with self.subTest(function=function.__name__, first=first):
                    arguments = good[:first] + tuple(wrong for wrong, _ in wrongs[first:])
                    self.refused(kind, function, *arguments, *good[len(arguments):])

    def test_the_earliest_with_a_good_one_between(self):
        self.refused(NoMap, maps.winner, NO_MAP, STATE, 1)
        self.refused(NoMap, maps.after, NO_MAP, STATE, None)
        self.refused(NoMap, reading.read, NO_MAP, STATE, None)

    def test_a_strange_thing_beside_no_keymap(self):
        for thing in STRANGE:
            with self.subTest(thing=repr(thing)[:60]):
                self.refused(NoMap, maps.is_state, NO_MAP, thing)
                self.refused(NoMap, reading.is_row, NO_MAP, thing)

    def test_strange_values_for_each_argument(self):
        for function, good, wrongs in CASES:
            for place, (_, kind) in enumerate(wrongs):
                # Some of the strange values are right there: they are tested below and elsewhere.
                if kind in (NoKeys, NoRow, NoBinding, NoGaps, NoNumber):
                    continue
                for thing in STRANGE:
                    with self.subTest(function=function.__name__, thing=repr(thing)[:60]):
                        arguments = good[:place] + (thing,) + good[place + 1:]
                        self.refused(kind, function, *arguments)

    def test_strange_keys_and_rows(self):
        for thing in STRANGE:
            with self.subTest(thing=repr(thing)[:60]):
                if thing not in ["a", "j", "key"]:
                    self.refused(NoKeys, maps.winner, KEYMAP, STATE, thing)
                    self.refused(NoKeys, futures.futures, KEYMAP, STATE, thing)
                if thing != []:
                    self.refused(NoRow, reading.read, KEYMAP, STATE, thing)


if __name__ == "__main__":
    unittest.main()
