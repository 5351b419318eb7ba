"""[2] What a keymap and a state are, on both sides of each limit."""

import random
import unittest

from keywait.errors import NoMap
from keywait.maps import is_map, is_state
from tests.samples import KEYMAP, PLAIN, STRANGE, call, draw_map, exactly, with_binding, with_part

SMALLEST = ((), (), {}, ((),), 1)


def with_flags(flags, outside=()):
    """A keymap with these flags and little else."""
    return (flags, outside, {}, ((),), 5)


def with_commands(commands, flags=("a",)):
    """A keymap with these commands and no binding."""
    return (flags, (), commands, ((),), 5)


def with_sizes(*sizes):
    """A keymap with layers of so many bindings."""
    return ((), (), {}, tuple((("j", {}, None),) * size for size in sizes), 5)


class MapTest(unittest.TestCase):

    def good(self, *things):
        for thing in things:
            with self.subTest(thing=repr(thing)[:200]):
                self.assertIs(call(is_map, thing), True)

    def bad(self, *things):
        for thing in things:
            with self.subTest(thing=repr(thing)[:200]):
                self.assertIs(call(is_map, thing), False)


class WholeTest(MapTest):

    def test_keymaps(self):
        self.good(KEYMAP, PLAIN, SMALLEST)

    def test_drawn_keymaps(self):
        drawn = random.Random(2)
        self.good(*[draw_map(drawn) for _ in range(200)])

    def test_another_length_or_a_list(self):
        self.bad(KEYMAP[:4], KEYMAP + (5,), KEYMAP + ((),), list(KEYMAP), (), (KEYMAP,))

    def test_values_of_other_kinds(self):
        self.bad(*STRANGE)

    def test_a_part_of_another_kind(self):
        fitting = [(1, ()), (1, ("a",)), (3, ((),)), (4, 1), (4, 5)]
        fitting = [exactly(pair) for pair in fitting]
        for place in range(5):
            for thing in STRANGE:
                if exactly((place, thing)) not in fitting:
                    self.bad(with_part(KEYMAP, place, thing))

    def test_strange_things_deep_inside_never_raise(self):
        for thing in STRANGE:
            for keymap in [
                with_flags((thing,)),
                with_flags(("a", thing)),
                with_flags(("a",), (thing,)),
                with_flags(("a",), ("a", thing)),
                with_commands({"go": thing}),
                with_commands({"go": {"a": thing}}),
                with_part(KEYMAP, 3, (thing,)),
                with_part(KEYMAP, 3, ((thing,),)),
                with_binding((thing, {}, "go")),
                with_binding(("j", thing, "go")),
                with_binding(("j", {"a": thing}, "go")),
                with_binding(("j", {}, thing)),
            ]:
                with self.subTest(keymap=repr(keymap)[:200]):
                    self.assertIn(call(is_map, keymap), [True, False])

    def test_strange_keys_of_dicts(self):
        for thing in [None, True, False, 0, 1, 10 ** 20 - 1, (), ("a",), ((1, "a"), None)]:
            self.bad(
                with_commands({thing: {}}),
                with_commands({"go": {thing: True}}),
                with_binding(("j", {thing: True}, "go")),
            )


class FlagsTest(MapTest):

    def test_three_and_four(self):
        self.good(with_flags(()), with_flags(("a",)), with_flags(("a", "b", "c")))
        self.bad(with_flags(("a", "b", "c", "d")))

    def test_ascending_and_different(self):
        self.good(with_flags(("a", "aa", "b")), with_flags(("ab", "b")))
        self.bad(with_flags(("b", "a")), with_flags(("a", "c", "b")), with_flags(("b", "a", "c")))
        self.bad(with_flags(("a", "a")), with_flags(("a", "b", "b")), with_flags(("aa", "a")))

    def test_tuple_of_names(self):
        self.bad(with_flags(["a"]), with_flags("a"), with_flags({"a": True}), with_flags(None))
        self.bad(with_flags((1,)), with_flags((True, "a")), with_flags(("a", 1)))
        self.bad(with_flags((("a",),)), with_flags((None,)))

    def test_letters_of_names(self):
        for name in ["a", "z", "az", "abcdefgh", "zzzzzzzz"]:
            self.good(with_flags((name,)), with_commands({name: {}}))
        for name in ["", "abcdefghi", "A", "aB", "a1", "a_", "a b", "a\n", "\u00e9", "-", "`", "{"]:
            self.bad(with_flags((name,)), with_commands({name: {}}))


class OutsideTest(MapTest):

    def test_some_of_the_flags(self):
        flags = ("a", "b", "c")
        for outside in [(), ("a",), ("c",), ("a", "c"), flags]:
            self.good(with_flags(flags, outside))

    def test_no_flag(self):
        self.bad(with_flags((), ("a",)), with_flags(("a", "c"), ("a", "b")))
        self.bad(with_flags(("ab",), ("a",)), with_flags(("a",), ("ab",)))

    def test_ascending_and_different(self):
        self.bad(with_flags(("a", "b"), ("b", "a")), with_flags(("a", "b"), ("a", "a")))
        self.bad(with_flags(("a", "b"), ("a", "b", "b")))

    def test_a_tuple(self):
        self.bad(with_flags(("a",), ["a"]), with_flags(("a",), "a"), with_flags(("a",), {"a": 0}))
        self.bad(with_flags(("a",), None), with_flags(("a",), []))


class CommandsTest(MapTest):

    def test_eight_and_nine(self):
        self.good(with_commands({}), with_commands({name: {} for name in "abcdefgh"}))
        self.bad(with_commands({name: {} for name in "abcdefghi"}))

    def test_effects(self):
        self.good(with_commands({"a": {"a": True}, "go": {"a": False}, "up": {}}))
        self.good(with_commands({"go": {"b": True, "a": False}}, ("a", "b")))
        self.bad(with_commands({"go": {"b": True}}), with_commands({"go": {"a": True, "b": False}}))
        self.bad(with_commands({"go": {}, "up": {"b": True}}), with_commands({"a": {"go": True}}))

    def test_values_of_effects(self):
        for value in [1, 0, None, "on", (), [], {}]:
            self.bad(with_commands({"go": {"a": value}}))
            self.bad(with_commands({"go": {"a": True, "b": value}}, ("a", "b")))

    def test_dicts(self):
        self.bad(with_commands(("go",)), with_commands(["go"]), with_commands("go"))
        self.bad(with_commands({"go": None}), with_commands({"go": ()}), with_commands({"go": []}))
        self.bad(with_commands({"go": (("a", True),)}), with_commands({"go": ("a",)}))


class LayersTest(MapTest):

    def test_how_many(self):
        self.good(with_sizes(0), with_sizes(1), with_sizes(0, 0, 0, 0), with_sizes(1, 0, 2, 0))
        self.bad(with_sizes(), with_sizes(0, 0, 0, 0, 0), with_sizes(1, 1, 1, 1, 1))

    def test_sixteen_and_seventeen_bindings(self):
        self.good(with_sizes(16), with_sizes(4, 4, 4, 4), with_sizes(0, 15, 1))
        self.bad(with_sizes(17), with_sizes(4, 4, 4, 5), with_sizes(16, 1), with_sizes(1, 0, 0, 16))

    def test_tuples(self):
        binding = ("j", {}, None)
        for layers in [[()], [(binding,)], ([binding],), ([],), (binding,), binding, "j", {}, (None,)]:
            self.bad(((), (), {}, layers, 5))
        self.bad(((), (), {}, ((), [binding]), 5), ((), (), {}, ({},), 5))

    def test_a_wrong_binding_at_any_place(self):
        binding, wrong = ("j", {}, None), ("j", {}, "gone")
        for layers in [((wrong,),), ((binding, wrong),), ((binding,), (wrong,)), ((), (wrong, binding))]:
            self.bad(((), (), {}, layers, 5))


class BindingTest(MapTest):

    def test_keys(self):
        for keys in ["j", "jj", "jkl", "azza"]:
            self.good(with_binding((keys, {}, "go")))
        for keys in ["", "jklmn", "J", "j1", "j k", "\u00e9", None, 1, ("j",), ["j"]]:
            self.bad(with_binding((keys, {}, "go")))

    def test_condition(self):
        for condition in [{}, {"a": True}, {"a": False}]:
            self.good(with_binding(("j", condition, "go")))
        for condition in [{"b": True}, {"a": True, "b": True}, {"a": 1}, {"a": 0}, {"a": None}]:
            self.bad(with_binding(("j", condition, "go")))
        for condition in [None, (), [], "a", ("a",), (("a", True),), True]:
            self.bad(with_binding(("j", condition, "go")))
        self.bad(with_binding(("j", {"a": True, "b": 0}, "go"), ("a", "b")))

    def test_command(self):
        self.good(with_binding(("j", {}, None)), with_binding(("j", {}, "go")))
        self.good(with_binding(("j", {}, None), commands=()))
        for command in ["gone", "g", "a", "", True, False, 0, 1, (), [], {}, ["go"], ("go",), {"go": {}}]:
            self.bad(with_binding(("j", {}, command)))

    def test_tuple_of_three(self):
        self.bad(with_binding(["j", {}, "go"]), with_binding(("j", {})), with_binding("jkl"))
        self.bad(with_binding(("j", {}, "go", None)), with_binding(()), with_binding(("j", "go", {})))


class WaitTest(MapTest):

    def test_limits(self):
        self.good(*[with_part(KEYMAP, 4, wait) for wait in [1, 2, 999, 1000]])
        self.bad(*[with_part(KEYMAP, 4, wait) for wait in [0, -1, 1001, 10 ** 20 - 1]])

    def test_an_integer(self):
        self.bad(*[with_part(KEYMAP, 4, wait) for wait in [True, False, None, "5", (5,), [5], {}]])


class StateTest(unittest.TestCase):

    def test_right_number_of_booleans(self):
        for many in range(4):
            keymap = with_flags(("a", "b", "c")[:many])
            for size in range(6):
                for value in [True, False]:
                    with self.subTest(many=many, size=size, value=value):
                        self.assertIs(call(is_state, keymap, (value,) * size), size == many)

    def test_no_integers_for_booleans(self):
        for thing in [(1, True), (True, 0), (0, 0), (1, 1), (None, True), (True, "on"), (True, ())]:
            with self.subTest(thing=thing):
                self.assertIs(call(is_state, KEYMAP, thing), False)

    def test_no_list_or_dict(self):
        for thing in [[True, False], {"a": True, "b": False}, {True: 0, False: 0}, "ab", []]:
            with self.subTest(thing=thing):
                self.assertIs(call(is_state, KEYMAP, thing), False)
        self.assertIs(call(is_state, PLAIN, []), False)
        self.assertIs(call(is_state, PLAIN, {}), False)
        self.assertIs(call(is_state, PLAIN, ""), False)

    def test_values_of_other_kinds(self):
        for thing in STRANGE:
            with self.subTest(thing=repr(thing)[:60]):
                self.assertIs(call(is_state, KEYMAP, thing), False)
                self.assertIs(call(is_state, PLAIN, thing), isinstance(thing, tuple) and not thing)

    def test_no_keymap(self):
        for thing in STRANGE + [KEYMAP[:4], list(KEYMAP), with_part(KEYMAP, 4, True)]:
            with self.subTest(thing=repr(thing)[:60]):
                with self.assertRaises(NoMap):
                    call(is_state, thing, ())


del MapTest

if __name__ == "__main__":
    unittest.main()
