"""[6] back, and what a Reader does not share; wrong arguments and refused calls."""

import copy
import random
import unittest

from keywait.errors import NoFlag, NoKeys, NoMap, NoNumber, NoState, NoTime, Unlike
from keywait.reader import Reader
from tests.samples import KEYMAP, PLAIN, STRANGE, WAIT, call, draw_call, draw_map, draw_state, exactly, with_part

LATEST = 10 ** 9
DOWN = ("do", "down", "j")
FLAGGED = (("a",), ("a",), {"down": {}, "leave": {}}, PLAIN[3], WAIT)
ON_OFF = (("a",), ("a",), {"on": {"a": True}, "off": {"a": False}},
          ((("x", {}, "on"), ("xyz", {}, "off"), ("y", {"a": True}, "off")),), WAIT)
# Alike in form with ON_OFF.
OFF_ON = ON_OFF[:3] + (((("x", {}, "off"), ("xx", {}, "on")),), 50)


def shown(reader):
    """All that a Reader tells of itself."""
    return exactly((reader.held(), reader.state(), reader.used(), reader.calls()))


def fed(keymap, state, calls):
    """A Reader behind these calls, given as (name, argument, ..)."""
    reader = Reader(keymap, state)
    for name, *values in calls:
        getattr(reader, name)(*values)
    return reader


class BackCase(unittest.TestCase):

    def alike(self, one, other, calls):
        """Both Readers tell the same now and behind each of the calls, errors included."""
        self.assertEqual(shown(one), shown(other))
        for name, *values in calls:
            told = []
            for reader in (one, other):
                try:
                    told.append(exactly(call(getattr(reader, name), *values)))
                except ValueError as error:
                    told.append(type(error).__name__)
            with self.subTest(call=(name, *values)):
                self.assertEqual(told[0], told[1])
                self.assertEqual(shown(one), shown(other))


class BackTest(BackCase):

    CALLS = [("key", "x", 0), ("key", "y", 3), ("advance", 8), ("finish",), ("key", "x", 8), ("key", "y", 14),
             ("change", "a", False, 20), ("key", "x", 20), ("swap", OFF_ON), ("key", "x", 21)]
    BEHIND = [("key", "z", 2), ("key", "z", 5), ("advance", 8), ("key", "z", 8), ("advance", 19),
              ("change", "a", True, 25), ("key", "x", 71), ("key", "y", 72), ("finish",)]

    def test_each_count(self):
        for count in range(len(self.CALLS) + 1):
            reader = fed(ON_OFF, (False,), self.CALLS)
            with self.subTest(count=count):
                self.assertIsNone(call(reader.back, count))
                kept = self.CALLS[:len(self.CALLS) - count]
                self.assertEqual(reader.calls(), len(kept))
                self.alike(reader, fed(ON_OFF, (False,), kept), self.BEHIND)

    def test_none(self):
        reader = fed(PLAIN, (), [("key", "j", 4)])
        before = shown(reader)
        self.assertIsNone(call(reader.back, 0))
        self.assertEqual(shown(reader), before)
        reader = Reader(PLAIN, ())
        self.assertIsNone(call(reader.back, 0))
        self.assertEqual(shown(reader), exactly(("", (), 0, 0)))

    def test_all(self):
        reader = fed(ON_OFF, (False,), self.CALLS)
        call(reader.back, len(self.CALLS))
        self.assertEqual(shown(reader), exactly(("", (False,), 0, 0)))
        self.alike(reader, Reader(ON_OFF, (False,)), self.CALLS)

    def test_twice_in_a_row(self):
        for first in range(6):
            for second in range(5):
                reader = fed(ON_OFF, (False,), self.CALLS)
                reader.back(first)
                reader.back(second)
                kept = self.CALLS[:len(self.CALLS) - first - second]
                with self.subTest(first=first, second=second):
                    self.alike(reader, fed(ON_OFF, (False,), kept), self.BEHIND)

    def test_new_calls_are_taken_back_too(self):
        reader = fed(ON_OFF, (False,), self.CALLS[:4])
        reader.back(2)
        reader.key("z", 4)
        reader.advance(30)
        reader.back(1)
        self.alike(reader, fed(ON_OFF, (False,), self.CALLS[:2] + [("key", "z", 4)]), self.BEHIND)
        reader = fed(ON_OFF, (False,), self.CALLS[:3] + [("key", "z", 8)])
        reader.back(3)
        self.alike(reader, fed(ON_OFF, (False,), self.CALLS[:1]), self.BEHIND)

    def test_over_a_swap(self):
        other = with_part(PLAIN, 3, ((("j", {}, "leave"),),))
        reader = fed(PLAIN, (), [("key", "j", 0), ("swap", other)])
        call(reader.back, 1)
        self.assertEqual(reader.held(), "j")
        self.assertEqual(call(reader.key, "k", 5), [("do", "leave", "jk")])
        call(reader.swap, other)
        self.assertEqual(call(reader.key, "j", 5), [("do", "leave", "j")])
        call(reader.back, 4)
        self.assertEqual(shown(reader), exactly(("", (), 0, 0)))
        self.assertEqual(call(reader.key, "j", 0), [])

    def test_over_a_change_and_a_finish(self):
        reader = fed(FLAGGED, (False,), [("key", "j", 0), ("change", "a", True, 2), ("key", "j", 2), ("finish",)])
        call(reader.back, 1)
        self.assertEqual((reader.held(), reader.state(), reader.used()), ("j", (True,), 1))
        call(reader.back, 2)
        self.assertEqual((reader.held(), reader.state(), reader.used()), ("j", (False,), 0))
        self.assertEqual(call(reader.key, "k", 1), [("do", "leave", "jk")])

    def test_the_last_key_counts_anew(self):
        reader = fed(PLAIN, (), [("key", "j", 0), ("key", "j", 4)])
        call(reader.back, 1)
        self.assertEqual(call(reader.advance, 6), [DOWN])

    def test_behind_many_calls(self):
        calls = []
        for place in range(150):
            calls += [("key", "x", 7 * place), ("key", "y", 7 * place + place % 7)]
            calls.append([("finish",), ("advance", 7 * place + 6), ("change", "a", False, 7 * place + 6),
                          ("swap", ON_OFF)][place % 4])
        for count in [1, 2, 99, 100, 101, 250, 449, 450]:
            reader = fed(ON_OFF, (False,), calls)
            self.assertEqual(reader.calls(), 450)
            call(reader.back, count)
            with self.subTest(count=count):
                kept = calls[:450 - count]
                self.alike(reader, fed(ON_OFF, (False,), kept), calls[450 - count:][:20])
        with self.assertRaises(NoNumber):
            call(fed(ON_OFF, (False,), calls).back, 451)

    def test_drawn(self):
        drawn = random.Random(66)
        for _ in range(250):
            keymap = draw_map(drawn, drawn.choice([1, 2, 5]))
            state = draw_state(drawn, keymap)
            reader, kept, time = Reader(keymap, state), [], 0
            for _ in range(drawn.randint(1, 40)):
                if drawn.random() < 0.15:
                    count = drawn.randint(0, len(kept))
                    call(reader.back, count)
                    kept = kept[:len(kept) - count]
                    time = max([0] + [one[-1] for one in kept if one[0] in ("key", "change", "advance")])
                else:
                    one = draw_call(drawn, keymap, time)
                    call(getattr(reader, one[0]), *one[1:])
                    kept.append(one)
                    time = max(time, one[-1]) if one[0] in ("key", "change", "advance") else time
            self.alike(reader, fed(keymap, state, kept), [
                ("advance", time - 1), ("key", "j", time), ("key", "k", time + 1), ("finish",)])


class CountTest(BackCase):

    def test_wrong_counts(self):
        for calls in [[], [("key", "j", 0)], [("key", "j", 0), ("finish",), ("key", "j", 9)]]:
            for count in [len(calls) + 1, len(calls) + 100, -1, -len(calls) - 1, True, False, None, "1", "", [1], (1,),
                          {}, [], (), 10 ** 20 - 1]:
                reader = fed(PLAIN, (), calls)
                before = shown(reader)
                with self.subTest(count=count, calls=len(calls)):
                    with self.assertRaises(ValueError) as caught:
                        call(reader.back, count)
                    self.assertIs(type(caught.exception), NoNumber)
                    self.assertEqual(shown(reader), before)
                    self.alike(reader, fed(PLAIN, (), calls), [("key", "k", 12)])

    def test_calls_that_were_taken_back_are_gone(self):
        reader = fed(PLAIN, (), [("key", "j", 0), ("key", "j", 1), ("key", "j", 2)])
        reader.back(2)
        with self.assertRaises(NoNumber):
            call(reader.back, 2)
        self.assertEqual(reader.calls(), 1)
        call(reader.back, 1)
        with self.assertRaises(NoNumber):
            call(reader.back, 1)


class SharingTest(BackCase):

    def spoil(self, keymap):
        """Change each dict of the keymap."""
        for effect in keymap[2].values():
            effect.update({"a": True, "b": True})
        for layer in keymap[3]:
            for _, condition, _ in layer:
                condition.clear()
                condition["a"] = False
        keymap[2].clear()

    def test_later_changes_to_what_the_maker_was_passed(self):
        calls = [("key", letter, time) for time, letter in enumerate("kjkjjk")] + [("change", "a", True, 9)]
        calls += [("key", letter, 10 + time) for time, letter in enumerate("kjkjkj")] + [("finish",)]
        for held in ["", "j"]:
            keymap = copy.deepcopy(KEYMAP)
            before = [("key", letter, 0) for letter in held]
            reader = fed(keymap, (False, True), before)
            self.spoil(keymap)
            self.alike(reader, fed(KEYMAP, (False, True), before), calls)

    def test_later_changes_to_what_swap_was_passed(self):
        keymap = copy.deepcopy(KEYMAP)
        bare = with_part(KEYMAP, 3, ((),))
        reader = fed(bare, (False, True), [("swap", keymap)])
        self.spoil(keymap)
        calls = [("key", letter, time) for time, letter in enumerate("kjkjjk")] + [("finish",)]
        self.alike(reader, fed(bare, (False, True), [("swap", KEYMAP)]), calls)

    def test_later_changes_and_then_back(self):
        one, other = copy.deepcopy(KEYMAP), copy.deepcopy(KEYMAP)
        reader = fed(one, (False, False), [("key", "k", 0), ("swap", other), ("key", "j", 0), ("swap", KEYMAP)])
        self.spoil(one)
        self.spoil(other)
        reader.back(1)
        self.assertEqual(call(reader.key, "k", 0), [("do", "off", "jk")])
        reader.back(3)
        self.assertEqual(call(reader.key, "j", 0), [])
        self.assertEqual(call(reader.key, "k", 0), [("do", "off", "jk")])

    def test_the_form_stays_as_it_was_passed(self):
        keymap = copy.deepcopy(KEYMAP)
        reader = Reader(keymap, (False, False))
        keymap[2]["new"] = {}
        with self.assertRaises(Unlike):
            call(reader.swap, keymap)
        self.assertEqual(call(reader.swap, KEYMAP), [])

    def test_two_readers_share_nothing(self):
        one, other = Reader(FLAGGED, (False,)), Reader(FLAGGED, (False,))
        call(one.key, "j", 8)
        self.assertEqual(shown(other), exactly(("", (False,), 0, 0)))
        call(other.change, "a", True, 0)
        self.assertEqual((one.held(), one.state(), one.calls()), ("j", (False,), 1))
        call(other.swap, with_part(FLAGGED, 4, 1))
        self.assertEqual(call(one.key, "k", 13), [("do", "leave", "jk")])
        call(one.back, 2)
        self.assertEqual((other.calls(), other.state()), (2, (True,)))

    def test_a_list_that_the_caller_changes_does_not_come_back(self):
        reader = Reader(FLAGGED, (False,))
        calls = [("key", "j", 0), ("key", "x", 0), ("key", "j", 0), ("advance", 0), ("advance", 9), ("finish",),
                 ("key", "j", 9), ("change", "a", True, 9), ("key", "j", 9), ("swap", FLAGGED), ("finish",)]
        expected = [[], [DOWN, ("text", "x")], [], [], [DOWN], [], [], [DOWN], [], [DOWN], []]
        for (name, *values), events in zip(calls, expected):
            for _ in range(2):
                told = call(getattr(reader, name), *values)
                self.assertEqual(told, events)
                told.append(("text", "z"))
                told[0] = None
                reader.back(1)
            getattr(reader, name)(*values)


class RefusedTest(BackCase):

    CALLS = [("key", "j", 3)]

    def refused(self, kind, name, *values):
        """The call raises an error of just this class, and nothing else happens."""
        reader = fed(FLAGGED, (False,), self.CALLS)
        with self.subTest(name=name, values=repr(values)[:80]):
            with self.assertRaises(ValueError) as caught:
                call(getattr(reader, name), *values)
            self.assertIs(type(caught.exception), kind)
            self.assertEqual((reader.held(), reader.calls(), reader.used()), ("j", 1, 0))
            self.alike(reader, fed(FLAGGED, (False,), self.CALLS), [
                ("advance", 3), ("key", "k", 8), ("back", 2), ("back", 1), ("key", "j", 0)])

    def test_letters(self):
        for letter in [*STRANGE, "jk", "J", "1", "-", "\u00aa"]:
            if letter not in ["a", "j"]:
                for time in [3, 9, 2, True, None]:
                    self.refused(NoKeys, "key", letter, time)

    def test_times(self):
        for time in [*STRANGE, 2, -3, LATEST + 1, "3", [3], (3,)]:
            if exactly(time) != "5":
                self.refused(NoTime, "key", "j", time)
                self.refused(NoTime, "change", "a", True, time)
                self.refused(NoTime, "advance", time)

    def test_flags_and_values(self):
        for flag in [*STRANGE, "b", ("a",), ["a"]]:
            if exactly(flag) != "'a'":
                for value, time in [(True, 3), (1, 9), (None, 2)]:
                    self.refused(NoFlag, "change", flag, value, time)
        for value in STRANGE:
            if exactly(value) not in ["True", "False"]:
                for time in [3, 9, 2]:
                    self.refused(NoFlag, "change", "a", value, time)

    def test_a_flag_that_is_not_from_outside(self):
        reader = fed(KEYMAP, (False, True), [("key", "j", 0)])
        for flag in ["b", "c"]:
            with self.assertRaises(NoFlag):
                call(reader.change, flag, True, 0)
        self.assertEqual((reader.held(), reader.calls()), ("j", 1))
        call(reader.change, "a", True, 0)

    def test_keymaps(self):
        for thing in STRANGE:
            self.refused(NoMap, "swap", thing)
        for wrong in [FLAGGED[:4], list(FLAGGED), with_part(FLAGGED, 4, True), with_part(FLAGGED, 4, 0),
                      with_part(FLAGGED, 2, {}), with_part(KEYMAP, 4, 0), with_part(PLAIN, 4, 1001)]:
            self.refused(NoMap, "swap", wrong)

    def test_keymaps_of_another_form(self):
        for other in [
            PLAIN, KEYMAP, with_part(FLAGGED, 1, ()), with_part(FLAGGED, 0, ("a", "b")), ON_OFF,
            with_part(FLAGGED, 2, {"down": {}, "leave": {}, "up": {}}),
            with_part(FLAGGED, 2, {"down": {"a": True}, "leave": {}}),
            (("b",), ("b",), *FLAGGED[2:]), (("a",), ("a",), {"down": {}}, ((),), WAIT),
        ]:
            self.refused(Unlike, "swap", other)

    def test_alike_in_form(self):
        for other in [FLAGGED, with_part(FLAGGED, 3, ((), ())), with_part(FLAGGED, 4, 1000),
                      with_part(FLAGGED, 2, {"leave": {}, "down": {}})]:
            reader = fed(FLAGGED, (False,), self.CALLS)
            self.assertEqual(call(reader.swap, other), [DOWN])

    def test_counts(self):
        for count in STRANGE:
            if exactly(count) not in ["0", "1"]:
                self.refused(NoNumber, "back", count)

    def test_the_maker(self):
        for thing in STRANGE:
            for state in [(False,), None, (0,)]:
                with self.subTest(thing=repr(thing)[:60]), self.assertRaises(NoMap):
                    call(Reader, thing, state)
            with self.subTest(thing=repr(thing)[:60]), self.assertRaises(NoState):
                call(Reader, FLAGGED, thing)
        for state in [(), (0,), (1,), [True], (True, True), ("True",), ((True,),)]:
            with self.subTest(state=state), self.assertRaises(NoState):
                call(Reader, FLAGGED, state)


if __name__ == "__main__":
    unittest.main()
