"""[4] and [5] How rows and their bursts are read, and the first sentence of [17]."""

import random
import unittest

from keywait.errors import NoMap, NoRow, NoState
from keywait.maps import is_state
from keywait.reading import read
from tests.samples import (
    KEYMAP, PLAIN, WAIT, binding_just, call, draw_map, draw_row, draw_state, exactly, plain_read, typed, with_part,
)

LATEST = 10 ** 9


def keys_of(events):
    """The keys of all the events, in order."""
    return "".join(event[2] if event[0] == "do" else event[1] for event in events)


def told(events):
    """The events in short: "jk" of a command in capitals, text as it is."""
    return " ".join(event[2].upper() if event[0] == "do" else event[1] for event in events)


class BurstTest(unittest.TestCase):

    def test_gaps(self):
        late = [("do", "down", "j"), ("text", "k")]
        for gap, expected in [(0, [("do", "leave", "jk")]), (1, [("do", "leave", "jk")]),
                              (WAIT - 1, [("do", "leave", "jk")]), (WAIT, [("do", "leave", "jk")]),
                              (WAIT + 1, late), (2 * WAIT, late), (LATEST, late)]:
            for start in [0, 1, WAIT, WAIT + 1, LATEST - gap]:
                if start + gap <= LATEST:
                    with self.subTest(gap=gap, start=start):
                        self.assertEqual(call(read, PLAIN, (), typed("jk", start, gap)), (expected, ()))

    def test_the_wait_of_the_keymap(self):
        for wait in [1, 2, 999, 1000]:
            keymap = with_part(PLAIN, 4, wait)
            for gap, expected in [(wait, "JK"), (wait + 1, "J k")]:
                events, _ = call(read, keymap, (), typed("jk", 3, gap))
                self.assertEqual(told(events), expected)

    def test_gaps_are_between_neighbours(self):
        keymap = binding_just("abcd", "a")
        self.assertEqual(told(call(read, keymap, (), typed("abcd", 0, WAIT))[0]), "ABCD")
        row = [("key", "a", 0), ("key", "b", 5), ("key", "c", 11), ("key", "d", 12)]
        self.assertEqual(told(call(read, keymap, (), row)[0]), "A b c d")

    def test_a_set_entry_between_two_keys(self):
        keymap = (("a",), ("a",), {"down": {}, "leave": {}}, PLAIN[3], WAIT)
        for state in [(False,), (True,)]:
            for value in [False, True]:
                row = [("key", "j", 0), ("set", "a", value, 0), ("key", "k", 0)]
                expected = ([("do", "down", "j"), ("text", "k")], (value,))
                self.assertEqual(call(read, keymap, state, row), expected)

    def test_a_set_entry_and_then_a_sequence(self):
        keymap = (("a",), ("a",), {"down": {}, "leave": {}}, PLAIN[3], WAIT)
        row = [("set", "a", True, 0), ("set", "a", False, 0), *typed("jk"), ("set", "a", True, 9)]
        self.assertEqual(call(read, keymap, (False,), row), ([("do", "leave", "jk")], (True,)))

    def test_the_flag_is_set_behind_the_burst(self):
        keymap = (("a",), ("a",), {"off": {}, "on": {}},
                  ((("j", {"a": False}, "off"), ("j", {"a": True}, "on")),), WAIT)
        row = [("key", "j", 0), ("set", "a", True, 0), ("key", "j", 0), ("set", "a", False, 9)]
        self.assertEqual(call(read, keymap, (False,), row),
                         ([("do", "off", "j"), ("do", "on", "j")], (False,)))

    def test_what_a_command_sets_stays_before_what_is_set(self):
        keymap = (("a", "b"), ("a",), {"up": {"a": True, "b": True}}, ((("jk", {}, "up"), ("j", {}, "up")),), WAIT)
        row = [("key", "j", 0), ("set", "a", False, 3)]
        self.assertEqual(call(read, keymap, (False, False), row), ([("do", "up", "j")], (False, True)))

    def test_what_begins_in_one_burst_does_not_go_on_in_the_next(self):
        keymap = binding_just("ab", "abcd", "cd")
        for times in [(0, 6, 7, 8), (0, 1, 7, 8), (0, 1, 2, 8), (0, 6, 12, 18)]:
            row = [("key", letter, time) for letter, time in zip("abcd", times)]
            expected = {(0, 6, 7, 8): "a b CD", (0, 1, 7, 8): "AB CD", (0, 1, 2, 8): "AB c d",
                        (0, 6, 12, 18): "a b c d"}
            self.assertEqual(told(call(read, keymap, (), row)[0]), expected[times])


class ReadTest(unittest.TestCase):

    def reads(self, keymap, letters, expected):
        with self.subTest(letters=letters):
            self.assertEqual(told(call(read, keymap, (), typed(letters))[0]), expected)

    def test_the_longest_fires(self):
        keymap = binding_just("a", "ab", "abc", "abcd")
        for letters, expected in [("a", "A"), ("ab", "AB"), ("abc", "ABC"), ("abcd", "ABCD"),
                                  ("abcda", "ABCD A"), ("aab", "A AB"), ("abab", "AB AB")]:
            self.reads(keymap, letters, expected)

    def test_the_order_of_bindings_of_other_lengths_means_nothing(self):
        for sequences in [("a", "ab", "abc"), ("abc", "ab", "a"), ("ab", "abc", "a")]:
            self.reads(binding_just(*sequences), "abcabx", "ABC AB x")

    def test_a_shorter_one_where_the_longer_does_not_come(self):
        keymap = binding_just("a", "abcd")
        for letters, expected in [("abc", "A b c"), ("abcx", "A b c x"), ("abcabcd", "A b c ABCD")]:
            self.reads(keymap, letters, expected)
        self.reads(binding_just("ab", "abcd"), "abcab", "AB c AB")

    def test_text(self):
        self.reads(binding_just("ab"), "axbaab", "a x b a AB")
        self.reads(binding_just(), "abc", "a b c")
        self.assertEqual(call(read, PLAIN, (), typed("kx")), ([("text", "k"), ("text", "x")], ()))

    def test_no_sequence_is_found_in_the_middle(self):
        self.reads(binding_just("abc", "bx"), "abx", "a BX")
        self.reads(binding_just("ab", "bc"), "abc", "AB c")

    def test_overlapping_sequences(self):
        self.reads(binding_just("aba", "ab", "ba"), "ababa", "ABA BA")
        self.reads(binding_just("ab", "bcd", "abcx"), "abcd", "AB c d")
        self.reads(binding_just("aa"), "aaaaa", "AA AA a")
        self.reads(binding_just("abc", "bcd", "cd"), "abcd", "ABC d")

    def test_event_of_a_command(self):
        keymap = ((), (), {"go": {}}, ((("jk", {}, "go"), ("l", {}, "go")),), WAIT)
        self.assertEqual(call(read, keymap, (), typed("jkl")),
                         ([("do", "go", "jk"), ("do", "go", "l")], ()))

    def test_a_command_changes_what_is_bound_behind_it(self):
        keymap = (("ins",), (), {"in": {"ins": True}, "out": {"ins": False}, "down": {}},
                  ((("i", {"ins": False}, "in"), ("jk", {"ins": True}, "out"), ("j", {"ins": False}, "down")),), WAIT)
        self.assertEqual(
            call(read, keymap, (False,), typed("jijjkjk")),
            ([("do", "down", "j"), ("do", "in", "i"), ("text", "j"), ("do", "out", "jk"),
              ("do", "down", "j"), ("text", "k")], (False,)))

    def test_the_longer_one_is_bound_behind_a_command_only(self):
        keymap = (("a",), (), {"on": {"a": True}, "long": {}, "short": {}},
                  ((("x", {}, "on"), ("jk", {"a": True}, "long"), ("j", {}, "short")),), WAIT)
        events, state = call(read, keymap, (False,), typed("jkxjk"))
        self.assertEqual(told(events), "J k X JK")
        self.assertEqual(state, (True,))

    def test_unbound_by_none(self):
        keymap = ((), (), {"go": {}}, ((("jk", {}, None),), (("jk", {}, "go"), ("j", {}, "go"))), WAIT)
        self.assertEqual(call(read, keymap, (), typed("jk")), ([("do", "go", "j"), ("text", "k")], ()))
        keymap = ((), (), {"go": {}}, ((("j", {}, None), ("j", {}, "go"), ("jk", {}, "go")),), WAIT)
        self.assertEqual(call(read, keymap, (), typed("jjk")), ([("text", "j"), ("do", "go", "jk")], ()))

    def test_unbound_by_none_in_some_states(self):
        expected = {False: [("do", "up", "k")], True: [("text", "k")]}
        for value in [False, True]:
            events, state = call(read, KEYMAP, (value, False), typed("k"))
            self.assertEqual((events, state), (expected[value], (value, not value)))

    def test_the_returned_state(self):
        self.assertEqual(call(read, KEYMAP, (True, True), typed("jk")), ([("do", "off", "jk")], (False, False)))
        self.assertEqual(call(read, KEYMAP, (False, False), [("set", "a", True, 3)]), ([], (True, False)))
        events, state = call(read, KEYMAP, (False, False), typed("kjk"))
        self.assertEqual((told(events), state), ("K JK", (False, False)))

    def test_kinds_of_what_is_returned(self):
        told_all = call(read, KEYMAP, (False, False), [("set", "a", True, 0), *typed("jx")])
        self.assertEqual(exactly(told_all), exactly(([("do", "go", "j"), ("text", "x")], (True, False))))

    def test_an_empty_row(self):
        for state in [(False, False), (True, False)]:
            self.assertEqual(exactly(call(read, KEYMAP, state, [])), exactly(([], state)))

    def test_a_row_of_three_hundred(self):
        self.assertEqual(call(read, PLAIN, (), typed("jk" * 150)), ([("do", "leave", "jk")] * 150, ()))
        late = [("do", "down", "j"), ("text", "k")] * 150
        self.assertEqual(call(read, PLAIN, (), typed("jk" * 150, 0, WAIT + 1)), (late, ()))
        row = [("set", "a", place % 2 == 0, place) for place in range(300)]
        self.assertEqual(call(read, KEYMAP, (False, True), row), ([], (False, True)))
        with self.assertRaises(NoRow):
            call(read, PLAIN, (), typed("j" * 301))

    def test_what_the_caller_changes_does_not_come_back(self):
        row = typed("jk", 0, WAIT + 1)
        events, _ = call(read, PLAIN, (), row)
        expected = list(events)
        events.append(("text", "x"))
        events[0] = None
        self.assertEqual(call(read, PLAIN, (), row), (expected, ()))
        events, _ = call(read, PLAIN, (), [])
        events.append(None)
        self.assertEqual(call(read, PLAIN, (), []), ([], ()))

    def test_what_was_returned_may_be_passed(self):
        _, state = call(read, KEYMAP, (False, False), typed("k"))
        self.assertEqual(call(read, KEYMAP, state, typed("jk")), ([("do", "off", "jk")], (False, False)))


class WrongTest(unittest.TestCase):

    def test_no_keymap(self):
        for keymap in [None, (), list(PLAIN), PLAIN[:4], with_part(PLAIN, 4, True), with_part(PLAIN, 2, {})]:
            for state, row in [((), []), (None, []), ((), None), (None, None)]:
                with self.subTest(keymap=keymap, state=state, row=row), self.assertRaises(NoMap):
                    call(read, keymap, state, row)

    def test_no_state(self):
        for state in [None, (), (True,), (1, 0), (True, 0), [True, False], (True, False, True)]:
            for row in [[], None, [("key", "jk", 0)]]:
                with self.subTest(state=state, row=row), self.assertRaises(NoState):
                    call(read, KEYMAP, state, row)

    def test_no_row(self):
        for row in [None, (), tuple(typed("jk")), {}, "jk", [None], [["key", "j", 0]], [("key", "jk", 0)],
                    [("key", "j", True)], [("key", "j", -1)], [("key", "j", LATEST + 1)], [("set", "b", True, 0)],
                    [("set", "a", 1, 0)], [("set", "a", True, False)], [("key", "j", 1), ("key", "j", 0)]]:
            with self.subTest(row=row), self.assertRaises(NoRow):
                call(read, KEYMAP, (True, False), row)


class DrawnTest(unittest.TestCase):

    def test_each_key_is_used_once_in_order(self):
        drawn = random.Random(17)
        for _ in range(1500):
            keymap = draw_map(drawn)
            state = draw_state(drawn, keymap)
            row = draw_row(drawn, keymap, drawn.choice([3, 10, 60]))
            events, last = call(read, keymap, state, row)
            self.assertEqual(keys_of(events), "".join(entry[1] for entry in row if entry[0] == "key"))
            self.assertIs(is_state(keymap, last), True)
            self.assertTrue(all(event[0] in ("do", "text") and event[-1] for event in events))

    def test_as_the_words_say(self):
        drawn = random.Random(5)
        seen = {"text": 0, "do": 0, "long": 0}
        for _ in range(1500):
            keymap = draw_map(drawn)
            state = draw_state(drawn, keymap)
            row = draw_row(drawn, keymap)
            events, last = call(read, keymap, state, row)
            self.assertEqual(exactly((events, last)), exactly(plain_read(keymap, state, row)))
            for event in events:
                seen[event[0]] += 1
                seen["long"] += len(event[-1]) > 1
        # The drawn cases are worth something only if all kinds of events come up.
        self.assertGreater(min(seen.values()), 300)

    def test_all_short_rows(self):
        keymap = binding_just("a", "ab", "bab", "abba")
        letters = [""]
        for _ in range(7):
            letters = [word + letter for word in letters for letter in "ab"]
            for word in letters:
                self.assertEqual(call(read, keymap, (), typed(word)), plain_read(keymap, (), typed(word)))


if __name__ == "__main__":
    unittest.main()
