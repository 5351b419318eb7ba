"""[6] The Reader, call by call: events, and what is held, behind each kind of call."""

import unittest

from keywait.errors import NoTime
from keywait.reader import Reader
from tests.samples import KEYMAP, PLAIN, WAIT, binding_just, call, exactly, with_part

DOWN = ("do", "down", "j")
LEAVE = ("do", "leave", "jk")
LATEST = 10 ** 9

# The keymap of the document's example, with a flag from outside that nothing asks for.
FLAGGED = (("a",), ("a",), {"down": {}, "leave": {}}, PLAIN[3], WAIT)

# x turns a on; only then jkl is bound, and only before it xyjz is.
TURNING = (
    ("a",), ("a",), {"on": {"a": True}, "long": {}, "off": {"a": False}},
    ((("x", {}, "on"), ("xyjz", {"a": False}, "long"), ("jkl", {"a": True}, "off"), ("j", {"a": False}, "long")),),
    WAIT,
)


def do(keys):
    """The event of a sequence that binding_just has bound."""
    return ("do", keys, keys)


class ReaderCase(unittest.TestCase):

    def tells(self, reader, name, values, events, held, used=None):
        """The call returns these events, and leaves these keys held."""
        with self.subTest(call=(name, *values)):
            before = (reader.calls(), reader.used())
            told = call(getattr(reader, name), *values)
            self.assertEqual(exactly(told), exactly(events))
            self.assertEqual(exactly(reader.held()), exactly(held))
            self.assertEqual(exactly(reader.calls()), exactly(before[0] + 1))
            self.assertEqual(exactly(reader.used()), exactly(before[1] + sum(len(event[-1]) for event in told)))

    def types(self, reader, letters, time, *told):
        """Each letter returns the next of these lists; all at one time."""
        for letter, events in zip(letters, told, strict=True):
            with self.subTest(letter=letter):
                self.assertEqual(call(reader.key, letter, time), events)


class KeyTest(ReaderCase):

    def test_at_the_start(self):
        for keymap, state in [(PLAIN, ()), (KEYMAP, (True, False))]:
            reader = call(Reader, keymap, state)
            told = (reader.held(), reader.state(), reader.used(), reader.calls())
            self.assertEqual(exactly(told), exactly(("", state, 0, 0)))

    def test_a_key_is_held_and_the_longest_is_told_at_once(self):
        reader = Reader(PLAIN, ())
        self.tells(reader, "key", ("j", 0), [], "j")
        self.tells(reader, "key", ("k", 5), [LEAVE], "")
        self.assertEqual((reader.used(), reader.calls(), reader.state()), (2, 2, ()))

    def test_a_key_ends_a_shorter_one_and_begins_anew(self):
        reader = Reader(PLAIN, ())
        self.tells(reader, "key", ("j", 0), [], "j")
        self.tells(reader, "key", ("j", 1), [DOWN], "j")
        self.tells(reader, "key", ("j", 2), [DOWN], "j")
        self.tells(reader, "key", ("k", 3), [LEAVE], "")
        self.assertEqual(reader.used(), 4)

    def test_text_is_told_at_once(self):
        reader = Reader(PLAIN, ())
        self.tells(reader, "key", ("x", 0), [("text", "x")], "")
        self.tells(reader, "key", ("k", 0), [("text", "k")], "")
        self.tells(reader, "key", ("j", 0), [], "j")
        self.tells(reader, "key", ("x", 0), [DOWN, ("text", "x")], "")
        self.assertEqual((reader.used(), reader.calls()), (4, 4))

    def test_a_key_that_only_begins_a_sequence_is_text_in_the_end(self):
        reader = Reader(binding_just("ab"), ())
        self.tells(reader, "key", ("a", 0), [], "a")
        self.tells(reader, "key", ("a", 0), [("text", "a")], "a")
        self.tells(reader, "key", ("c", 0), [("text", "a"), ("text", "c")], "")

    def test_what_is_bound_and_no_prefix_is_told_at_once(self):
        reader = Reader(binding_just("a", "bcd"), ())
        self.types(reader, "abcd", 3, [do("a")], [], [], [do("bcd")])

    def test_three_keys_are_held(self):
        reader = Reader(binding_just("abcd", "ab", "c"), ())
        self.types(reader, "abc", 0, [], [], [])
        self.assertEqual((reader.held(), reader.used()), ("abc", 0))
        self.tells(reader, "key", ("x", 0), [do("ab"), do("c"), ("text", "x")], "")
        self.types(reader, "abcd", 0, [], [], [], [do("abcd")])

    def test_the_rest_is_held_anew(self):
        reader = Reader(binding_just("abcd", "a", "bcx"), ())
        self.types(reader, "abcx", 0, [], [], [], [do("a"), do("bcx")])
        self.types(reader, "abcbcx", 0, [], [], [], [do("a"), ("text", "b"), ("text", "c")], [], [do("bcx")])
        reader = Reader(binding_just("abcd", "bca", "cab"), ())
        self.types(reader, "abcax", 0, [], [], [], [("text", "a"), do("bca")], [("text", "x")])
        self.types(reader, "abcx", 0, [], [], [], [("text", letter) for letter in "abcx"])

    def test_one_letter_may_tell_four_events(self):
        reader = Reader(binding_just("aaab", "aac"), ())
        self.types(reader, "aaax", 0, [], [], [], [("text", "a")] * 3 + [("text", "x")])
        self.types(reader, "aaaac", 0, [], [], [], [("text", "a")], [("text", "a"), do("aac")])

    def test_a_key_that_is_unbound_is_not_held(self):
        keymap = ((), (), {"go": {}}, ((("jk", {}, None), ("jk", {}, "go"), ("j", {}, "go")),), WAIT)
        self.types(Reader(keymap, ()), "jk", 0, [("do", "go", "j")], [("text", "k")])


class SilenceTest(ReaderCase):

    def test_gaps_of_the_wait_and_one_more(self):
        for start in [0, 7, LATEST - 6]:
            for gap, told, held in [(0, [LEAVE], ""), (4, [LEAVE], ""), (5, [LEAVE], ""),
                                    (6, [DOWN, ("text", "k")], "")]:
                reader = Reader(PLAIN, ())
                self.tells(reader, "key", ("j", start), [], "j")
                self.tells(reader, "key", ("k", start + gap), told, held)

    def test_waits_of_other_lengths(self):
        for wait in [1, 2, 1000]:
            keymap = with_part(PLAIN, 4, wait)
            reader = Reader(keymap, ())
            self.tells(reader, "key", ("j", 3), [], "j")
            self.tells(reader, "advance", (3 + wait,), [], "j")
            self.tells(reader, "advance", (4 + wait,), [DOWN], "")

    def test_the_wait_counts_from_the_last_key(self):
        reader = Reader(binding_just("abcd"), ())
        for letter, time in [("a", 0), ("b", 5), ("c", 10)]:
            self.tells(reader, "key", (letter, time), [], "abc"[:time // 5 + 1])
        self.tells(reader, "advance", (15,), [], "abc")
        self.tells(reader, "key", ("d", 15), [do("abcd")], "")
        self.types(reader, "abc", 20, [], [], [])
        self.tells(reader, "key", ("d", 26), [("text", letter) for letter in "abcd"], "")

    def test_advancing_is_no_key(self):
        reader = Reader(PLAIN, ())
        reader.key("j", 0)
        self.tells(reader, "advance", (3,), [], "j")
        self.tells(reader, "advance", (5,), [], "j")
        self.tells(reader, "advance", (6,), [DOWN], "")
        self.tells(reader, "advance", (6,), [], "")
        self.tells(reader, "advance", (LATEST,), [], "")

    def test_a_key_ends_the_burst_first(self):
        reader = Reader(PLAIN, ())
        reader.key("j", 0)
        self.tells(reader, "key", ("j", 6), [DOWN], "j")
        self.tells(reader, "key", ("x", 12), [DOWN, ("text", "x")], "")
        self.tells(reader, "key", ("j", 13), [], "j")
        self.tells(reader, "advance", (18,), [], "j")
        self.tells(reader, "key", ("k", 18), [LEAVE], "")

    def test_a_change_ends_the_burst_at_any_time(self):
        for time in [0, 5, 6, LATEST]:
            reader = Reader(FLAGGED, (False,))
            reader.key("j", 0)
            self.tells(reader, "change", ("a", True, time), [DOWN], "")
            self.assertEqual(reader.state(), (True,))
            self.tells(reader, "key", ("k", time), [("text", "k")], "")

    def test_the_end_of_a_burst_reads_all_that_is_held(self):
        for name, values in [("advance", (6,)), ("finish", ()), ("swap", (binding_just("ab", "b", "abcd"),))]:
            reader = Reader(binding_just("ab", "b", "abcd"), ())
            self.types(reader, "abc", 0, [], [], [])
            self.tells(reader, name, values, [do("ab"), ("text", "c")], "")
            self.assertEqual(reader.used(), 3)

    def test_what_fires_at_the_end_may_bind_what_is_read_behind_it(self):
        keymap = (("a",), (), {"on": {"a": True}, "go": {}},
                  ((("x", {}, "on"), ("xyzz", {}, "go"), ("yz", {"a": True}, "go"), ("y", {"a": False}, "go")),), WAIT)
        reader = Reader(keymap, (False,))
        self.types(reader, "xyz", 0, [], [], [])
        self.tells(reader, "finish", (), [("do", "on", "x"), ("do", "go", "yz")], "")
        self.assertEqual(reader.state(), (True,))

    def test_a_long_pause_with_nothing_held(self):
        reader = Reader(PLAIN, ())
        self.tells(reader, "advance", (LATEST,), [], "")
        self.tells(reader, "key", ("j", LATEST), [], "j")
        self.tells(reader, "key", ("k", LATEST), [LEAVE], "")

    def test_the_first_key_is_never_too_late(self):
        self.tells(Reader(PLAIN, ()), "key", ("j", 1000), [], "j")


class ChangeTest(ReaderCase):

    def test_before_it_sets_the_flag(self):
        keymap = (("a",), ("a",), {"no": {}, "yes": {}, "long": {}},
                  ((("j", {"a": False}, "no"), ("j", {"a": True}, "yes"), ("jk", {}, "long")),), WAIT)
        for old, told in [(False, "no"), (True, "yes")]:
            for new in [False, True]:
                reader = Reader(keymap, (old,))
                reader.key("j", 0)
                self.tells(reader, "change", ("a", new, 0), [("do", told, "j")], "")
                self.assertEqual(exactly(reader.state()), exactly((new,)))

    def test_to_the_value_that_the_flag_has(self):
        for value in [False, True]:
            reader = Reader(FLAGGED, (value,))
            reader.key("j", 0)
            self.tells(reader, "change", ("a", value, 0), [DOWN], "")
            self.tells(reader, "key", ("k", 0), [("text", "k")], "")
            self.assertEqual(reader.state(), (value,))

    def test_with_nothing_held(self):
        reader = Reader(FLAGGED, (False,))
        self.tells(reader, "change", ("a", True, 3), [], "")
        self.tells(reader, "change", ("a", False, 3), [], "")
        self.assertEqual((reader.state(), reader.used(), reader.calls()), ((False,), 0, 2))

    def test_the_flag_is_set_behind_the_commands_of_the_burst(self):
        keymap = (("a", "b"), ("a", "b"), {"up": {"a": True, "b": True}, "go": {}},
                  ((("j", {}, "up"), ("jk", {}, "go")),), WAIT)
        reader = Reader(keymap, (False, False))
        reader.key("j", 0)
        self.tells(reader, "change", ("a", False, 0), [("do", "up", "j")], "")
        self.assertEqual(reader.state(), (False, True))

    def test_it_changes_what_is_held(self):
        reader = Reader(TURNING, (True,))
        self.tells(reader, "key", ("j", 0), [], "j")
        self.tells(reader, "change", ("a", False, 0), [("text", "j")], "")
        self.tells(reader, "key", ("j", 0), [("do", "long", "j")], "")
        self.tells(reader, "change", ("a", True, 0), [], "")
        self.tells(reader, "key", ("j", 0), [], "j")


class CommandTest(ReaderCase):

    def test_a_command_in_the_middle_changes_what_is_held(self):
        reader = Reader(TURNING, (False,))
        self.types(reader, "xyj", 0, [], [], [])
        self.assertEqual((reader.held(), reader.state(), reader.used()), ("xyj", (False,), 0))
        self.tells(reader, "key", ("k", 0), [("do", "on", "x"), ("text", "y")], "jk")
        self.assertEqual((reader.state(), reader.used()), ((True,), 2))
        self.tells(reader, "key", ("l", 0), [("do", "off", "jkl")], "")
        self.assertEqual((reader.state(), reader.used()), ((False,), 5))

    def test_a_command_in_the_middle_changes_what_fires(self):
        reader = Reader(TURNING, (True,))
        self.tells(reader, "key", ("x", 0), [("do", "on", "x")], "")
        self.types(reader, "jkl", 0, [], [], [("do", "off", "jkl")])
        self.tells(reader, "key", ("j", 0), [("do", "long", "j")], "")
        self.tells(reader, "key", ("x", 0), [], "x")
        self.tells(reader, "key", ("j", 0), [("do", "on", "x")], "j")
        self.tells(reader, "key", ("k", 0), [], "jk")
        self.tells(reader, "finish", (), [("text", "j"), ("text", "k")], "")
        self.assertEqual(reader.state(), (True,))

    def test_the_state_behind_each_event(self):
        reader = Reader(KEYMAP, (False, False))
        self.tells(reader, "key", ("k", 0), [("do", "up", "k")], "")
        self.assertEqual(exactly(reader.state()), exactly((False, True)))
        self.tells(reader, "key", ("j", 0), [], "j")
        self.assertEqual(reader.state(), (False, True))
        self.tells(reader, "key", ("k", 0), [("do", "off", "jk")], "")
        self.assertEqual(reader.state(), (False, False))
        self.tells(reader, "key", ("j", 0), [("do", "go", "j")], "")


class FinishTest(ReaderCase):

    def test_a_pause(self):
        reader = Reader(PLAIN, ())
        reader.key("j", 4)
        self.tells(reader, "finish", (), [DOWN], "")
        self.tells(reader, "finish", (), [], "")
        self.tells(reader, "key", ("k", 4), [("text", "k")], "")
        self.assertEqual((reader.calls(), reader.used()), (4, 2))

    def test_at_the_start(self):
        self.tells(Reader(PLAIN, ()), "finish", (), [], "")

    def test_it_passes_no_time(self):
        reader = Reader(PLAIN, ())
        reader.key("x", 4)
        reader.finish()
        self.tells(reader, "key", ("j", 4), [], "j")

    def test_a_burst_behind_it_waits_anew(self):
        reader = Reader(PLAIN, ())
        reader.key("j", 0)
        reader.finish()
        self.tells(reader, "key", ("j", 5), [], "j")
        self.tells(reader, "key", ("k", 10), [LEAVE], "")


class SwapTest(ReaderCase):

    def test_the_burst_is_read_under_the_old_keymap(self):
        other = with_part(PLAIN, 3, ((("j", {}, "leave"), ("k", {}, "down")),))
        reader = Reader(PLAIN, ())
        reader.key("j", 0)
        self.tells(reader, "swap", (other,), [DOWN], "")
        self.tells(reader, "key", ("k", 0), [("do", "down", "k")], "")
        self.tells(reader, "key", ("j", 0), [("do", "leave", "j")], "")
        self.tells(reader, "swap", (PLAIN,), [], "")
        self.tells(reader, "key", ("j", 0), [], "j")

    def test_for_an_equal_keymap_it_does_what_finish_does(self):
        reader = Reader(PLAIN, ())
        reader.key("j", 0)
        self.tells(reader, "swap", (PLAIN,), [DOWN], "")
        self.tells(reader, "key", ("k", 0), [("text", "k")], "")

    def test_the_wait_of_the_new_keymap(self):
        reader = Reader(PLAIN, ())
        reader.key("j", 0)
        self.tells(reader, "swap", (with_part(PLAIN, 4, 2),), [DOWN], "")
        reader.key("j", 1)
        self.tells(reader, "advance", (3,), [], "j")
        self.tells(reader, "advance", (4,), [DOWN], "")
        self.tells(reader, "swap", (with_part(PLAIN, 4, 9),), [], "")
        reader.key("j", 4)
        self.tells(reader, "key", ("k", 13), [LEAVE], "")

    def test_state_and_time_stay(self):
        other = with_part(KEYMAP, 3, ((("j", {"b": True}, "off"),),))
        reader = Reader(KEYMAP, (False, False))
        reader.key("k", 8)
        self.tells(reader, "swap", (other,), [], "")
        self.assertEqual((reader.state(), reader.used()), ((False, True), 1))
        with self.assertRaises(NoTime):
            call(reader.key, "j", 7)
        self.tells(reader, "key", ("j", 8), [("do", "off", "j")], "")
        self.assertEqual(reader.state(), (False, False))

    def test_the_end_of_the_burst_may_change_the_state_first(self):
        other = with_part(TURNING, 3, ((("j", {"a": True}, "on"), ("j", {}, "off")),))
        reader = Reader(TURNING, (False,))
        reader.key("x", 0)
        self.tells(reader, "swap", (other,), [("do", "on", "x")], "")
        self.tells(reader, "key", ("j", 0), [("do", "on", "j")], "")


if __name__ == "__main__":
    unittest.main()
