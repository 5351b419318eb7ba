"""[3] Conditions, winners, bound sequences, and what firing a command does."""

import random
import unittest

from keywait.errors import NoCommand, NoKeys, NoMap, NoState
from keywait.maps import after, bound, winner
from tests.samples import KEYMAP, PLAIN, STATES, call, draw_map, draw_state, with_binding, with_part

WRONG_MAPS = [None, (), list(KEYMAP), KEYMAP[:4], with_part(KEYMAP, 4, True), with_part(KEYMAP, 4, 0),
              with_binding(("j", {"a": 1}, "go")), ((), (), {"go": {"a": True}}, ((),), 5)]
WRONG_STATES = [None, (), (True,), (True, False, True), [True, False], (1, 0), (True, 0), "ab"]


def flat(keymap):
    """All bindings in the order in which they win, each with its place."""
    return [(layer, index, *binding) for layer, bindings in enumerate(keymap[3])
            for index, binding in enumerate(bindings)]


def plain_winner(keymap, state, keys):
    """What the words of [3] say, asked of one binding after the other."""
    for layer, index, own_keys, condition, command in flat(keymap):
        met = [state[keymap[0].index(flag)] is condition[flag] for flag in condition]
        if own_keys == keys and False not in met:
            return (layer, index, command)
    return None


class WinnerTest(unittest.TestCase):

    def test_the_first_of_one_layer(self):
        keymap = ((), (), {"go": {}}, ((("k", {}, "go"), ("j", {}, "go"), ("j", {}, None)),), 5)
        self.assertEqual(call(winner, keymap, (), "j"), (0, 1))

    def test_layer_by_layer(self):
        keymap = ((), (), {"go": {}}, ((), (("k", {}, "go"), ("j", {}, "go")), (("j", {}, "go"),)), 5)
        self.assertEqual(call(winner, keymap, (), "j"), (1, 1))
        self.assertEqual(call(winner, keymap, (), "k"), (1, 0))

    def test_a_condition_that_holds_or_does_not(self):
        keymap = (("a", "b"), (), {"go": {}}, (
            (("j", {"a": True, "b": False}, "go"), ("j", {"a": False}, "go")), (("j", {}, "go"),)), 5)
        expected = {(False, False): (0, 1), (False, True): (0, 1), (True, False): (0, 0), (True, True): (1, 0)}
        for state in STATES:
            self.assertEqual(call(winner, keymap, state, "j"), expected[state])

    def test_each_flag_by_its_own_place(self):
        keymap = (("a", "b", "c"), (), {}, ((("j", {"c": True}, None), ("j", {"b": True}, None)),), 5)
        self.assertEqual(call(winner, keymap, (False, True, False), "j"), (0, 1))
        self.assertEqual(call(winner, keymap, (False, True, True), "j"), (0, 0))
        self.assertIsNone(call(winner, keymap, (True, False, False), "j"))

    def test_none(self):
        self.assertIsNone(call(winner, PLAIN, (), "k"))
        self.assertIsNone(call(winner, PLAIN, (), "jkj"))
        self.assertIsNone(call(winner, ((), (), {}, ((), ()), 5), (), "j"))
        self.assertIsNone(call(winner, with_binding(("j", {"a": True}, "go")), (False,), "j"))

    def test_just_these_keys(self):
        keymap = ((), (), {}, ((("jkl", {}, None), ("jk", {}, None), ("k", {}, None)),), 5)
        self.assertEqual(call(winner, keymap, (), "jk"), (0, 1))
        self.assertEqual(call(winner, keymap, (), "k"), (0, 2))
        self.assertIsNone(call(winner, keymap, (), "j"))
        self.assertIsNone(call(winner, keymap, (), "jklm"))

    def test_a_winner_may_have_no_command(self):
        self.assertEqual(call(winner, KEYMAP, (True, False), "k"), (0, 1))
        self.assertEqual(call(winner, KEYMAP, (False, False), "k"), (2, 0))

    def test_wrong_keys(self):
        for keys in ["", "jkljk", "J", "j1", "\u00e9", None, True, 1, ("j",), ["j"], {"j": 1}]:
            with self.subTest(keys=keys), self.assertRaises(NoKeys):
                call(winner, KEYMAP, (True, False), keys)

    def test_drawn(self):
        drawn = random.Random(3)
        for _ in range(300):
            keymap = draw_map(drawn)
            state = draw_state(drawn, keymap)
            for keys in sorted({row[2] for row in flat(keymap)}) + ["x", "jjjj"]:
                found = plain_winner(keymap, state, keys)
                self.assertEqual(call(winner, keymap, state, keys), found and found[:2])


class BoundTest(unittest.TestCase):

    def test_each_state(self):
        expected = {
            (False, False): {"j": "go", "k": "up"},
            (False, True): {"j": "go", "k": "up", "jk": "off"},
            (True, False): {"j": "go"},
            (True, True): {"j": "go", "jk": "off"},
        }
        for state in STATES:
            with self.subTest(state=state):
                self.assertEqual(call(bound, KEYMAP, state), expected[state])

    def test_a_winner_without_a_command_bars_later_bindings(self):
        for layers in [
            ((("j", {}, None), ("j", {}, "go")),),
            ((("j", {}, None),), (("j", {}, "go"),)),
            ((), (("j", {}, None), ("k", {}, "go")), (("j", {}, "go"), ("j", {}, "go"))),
        ]:
            table = call(bound, ((), (), {"go": {}}, layers, 5), ())
            self.assertNotIn("j", table)

    def test_one_without_a_command_that_does_not_win(self):
        keymap = (("a",), (), {"go": {}}, ((("j", {"a": True}, None), ("j", {}, "go"), ("j", {}, None)),), 5)
        self.assertEqual(call(bound, keymap, (False,)), {"j": "go"})
        self.assertEqual(call(bound, keymap, (True,)), {})

    def test_nothing_is_bound(self):
        self.assertEqual(call(bound, ((), (), {"go": {}}, ((),), 5), ()), {})

    def test_a_new_dict_each_time(self):
        table = call(bound, PLAIN, ())
        table["j"] = "leave"
        table["x"] = "down"
        del table["jk"]
        self.assertEqual(call(bound, PLAIN, ()), {"j": "down", "jk": "leave"})
        self.assertIsNot(call(bound, PLAIN, ()), call(bound, PLAIN, ()))

    def test_drawn(self):
        drawn = random.Random(4)
        for _ in range(300):
            keymap = draw_map(drawn)
            state = draw_state(drawn, keymap)
            expected = {}
            for keys in [row[2] for row in flat(keymap)]:
                found = plain_winner(keymap, state, keys)
                if found and found[2] is not None:
                    expected[keys] = found[2]
            self.assertEqual(call(bound, keymap, state), expected)


class AfterTest(unittest.TestCase):

    def test_no_effect(self):
        for state in STATES:
            self.assertEqual(call(after, KEYMAP, state, "go"), state)
        self.assertEqual(call(after, PLAIN, (), "down"), ())

    def test_an_effect_on_some_flags(self):
        for state in STATES:
            self.assertEqual(call(after, KEYMAP, state, "up"), (state[0], True))

    def test_an_effect_on_all_flags(self):
        for state in STATES:
            self.assertEqual(call(after, KEYMAP, state, "off"), (False, False))

    def test_each_flag_by_its_own_place(self):
        keymap = (("a", "b", "c"), (), {"go": {"c": False, "a": True}}, ((),), 5)
        self.assertEqual(call(after, keymap, (False, False, True), "go"), (True, False, False))
        self.assertEqual(call(after, keymap, (False, True, True), "go"), (True, True, False))

    def test_a_command_that_is_bound_nowhere(self):
        self.assertEqual(call(after, (("a",), (), {"go": {"a": True}}, ((),), 5), (False,), "go"), (True,))

    def test_a_tuple_of_booleans(self):
        made = call(after, KEYMAP, (True, True), "off")
        self.assertIs(type(made), tuple)
        self.assertTrue(all(value is False for value in made))

    def test_wrong_commands(self):
        for command in ["gone", "", "a", "j", None, True, 0, (), ("go",), [], ["go"], {}, {"go": {}}]:
            with self.subTest(command=command), self.assertRaises(NoCommand):
                call(after, KEYMAP, (True, False), command)


class WrongTest(unittest.TestCase):

    CALLS = [(winner, ("j",), (5,)), (bound, (), ()), (after, ("go",), ("gone",))]

    def test_no_keymap(self):
        for function, good, bad in self.CALLS:
            for keymap in WRONG_MAPS:
                for rest in [((True, False), *good), ((1,), *good), (None, *bad)]:
                    with self.subTest(function=function.__name__, keymap=keymap, rest=rest):
                        with self.assertRaises(NoMap):
                            call(function, keymap, *rest)

    def test_no_state(self):
        for function, good, bad in self.CALLS:
            for state in WRONG_STATES:
                for rest in [good, bad]:
                    with self.subTest(function=function.__name__, state=state, rest=rest):
                        with self.assertRaises(NoState):
                            call(function, KEYMAP, state, *rest)


if __name__ == "__main__":
    unittest.main()
