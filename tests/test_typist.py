"""[12] How a text is typed: rows whose events are just text, and occurrences that need a pause each."""

import random
import unittest
from itertools import combinations, product

from keywait.errors import NoKeys, NoMap, NoState
from keywait.maps import bound
from keywait.reading import is_row, read
from keywait.typist import is_apart, type_text
from tests.samples import (
    KEYMAP, PLAIN, STATES, STRANGE, WAIT, binding_just, call, draw_many, exactly, with_part,
)

LONG = "jklx" * 10


def occurrences(keymap, state, text):
    """All occurrences in the text, ascending."""
    table = bound(keymap, state)
    return sorted((start, keys) for start in range(len(text)) for keys in table if text[start:].startswith(keys))


def pauses_in(occurrence):
    """The places of the letters before which a pause breaks the occurrence."""
    start, keys = occurrence
    return set(range(start + 1, start + len(keys)))


def one_pause_breaks_two(chosen):
    """Whether one pause breaks two of these occurrences."""
    return any(pauses_in(one) & pauses_in(other) for one, other in combinations(chosen, 2))


def is_plain(keymap, state, text, places):
    """Whether the text, with pauses before these places, is read as text alone."""
    row, time = [], 0
    for place, letter in enumerate(text):
        time += keymap[4] + 1 if place in places else 0
        row.append(("key", letter, time))
    return read(keymap, state, row)[0] == [("text", letter) for letter in text]


def fewest_pauses(keymap, state, text):
    """The fewest pauses with which the text is read as text, by trying all gaps."""
    for many in range(len(text)):
        if any(is_plain(keymap, state, text, places) for places in combinations(range(1, len(text)), many)):
            return many
    return None


class TypeCase(unittest.TestCase):

    def typed(self, keymap, state, text, number=None):
        """type_text tells a right row with as many pauses as occurrences, and this number of them."""
        with self.subTest(text=text, state=state):
            told = call(type_text, keymap, state, text)
            self.assertEqual((type(told), len(told), told[0]), (tuple, 3, "row"))
            _, row, chosen = told
            self.assertIs(call(is_row, keymap, row), True)
            self.assertEqual([entry[:2] for entry in row], [("key", letter) for letter in text])
            self.assertEqual(read(keymap, state, row), ([("text", letter) for letter in text], state))
            gaps = [other[2] - one[2] for one, other in zip(row, row[1:])]
            pauses = sum(gap > keymap[4] for gap in gaps)
            self.assertEqual(pauses, len(chosen))
            self.assertIs(type(chosen), list)
            self.assertEqual(chosen, sorted(set(chosen)))
            self.assertTrue(set(chosen) <= set(occurrences(keymap, state, text)))
            self.assertFalse(one_pause_breaks_two(chosen))
            self.assertIs(call(is_apart, keymap, state, text, chosen), True)
            if number is not None:
                self.assertEqual(pauses, number)
        return told

    def blocked(self, keymap, state, text, place):
        self.assertEqual(exactly(call(type_text, keymap, state, text)), exactly(("blocked", place)))


class TypeTest(TypeCase):

    def test_nothing_is_bound(self):
        for text in ["j", "jk", LONG]:
            self.typed(binding_just(), (), text, 0)
            self.typed(with_part(PLAIN, 3, ((("j", {}, None), ("jk", {}, None), ("j", {}, "down")),)), (), text, 0)
            self.typed(binding_just("jkj", "jj", "a"), (), text, 0)

    def test_a_letter_that_alone_is_bound(self):
        self.blocked(PLAIN, (), "j", 0)
        self.blocked(PLAIN, (), "xxjkj", 2)
        self.blocked(PLAIN, (), "x" * 39 + "j", 39)
        self.blocked(binding_just("xy", "z", "y"), (), "xxxyz", 3)
        self.blocked(binding_just("xy", "z"), (), "xyxyzz", 4)

    def test_sequences_that_occur(self):
        for text, sequences, number in [
            ("jk", ["jk"], 1), ("jkl", ["jkl"], 1), ("jklm", ["jklm"], 1), ("xjky", ["jk"], 1), ("jkjk", ["jk"], 2),
            ("jjj", ["jj"], 2), ("jjjj", ["jj"], 3), ("jjjjj", ["jjj"], 2), ("jjjjjjj", ["jjjj"], 2),
            ("kj", ["jk"], 0), ("jxk", ["jk"], 0), ("jk", ["jkl"], 0), ("j", ["jk"], 0), ("j", ["jj"], 0),
        ]:
            self.typed(binding_just(*sequences), (), text, number)

    def test_overlapping_ones(self):
        self.typed(binding_just("jkl", "klm"), (), "jklm", 1)
        self.typed(binding_just("jk", "kl"), (), "jkl", 2)
        self.typed(binding_just("jklm", "mjkl"), (), "jklmjkl", 2)
        self.typed(binding_just("jkl", "lmn", "klm"), (), "jklmn", 2)
        self.typed(binding_just("abcd", "cdef", "efgh"), (), "abcdefgh", 2)
        self.typed(binding_just("abc", "bcd", "cde", "def"), (), "abcdef", 2)

    def test_within_one_another(self):
        self.typed(binding_just("jklm", "kl"), (), "jklm", 1)
        self.typed(binding_just("jklm", "jk", "lm"), (), "jklm", 2)
        self.typed(binding_just("jklm", "jk", "kl", "lm"), (), "jklm", 3)

    def test_the_beginning_and_the_end_of_another(self):
        self.typed(binding_just("jk", "jkl"), (), "jkl", 1)
        self.typed(binding_just("kl", "jkl"), (), "jkl", 1)
        self.typed(binding_just("jk", "jkl", "jklm"), (), "xjklmjkl", 2)
        self.typed(binding_just("lm", "klm", "jklm"), (), "xjklmklm", 2)

    def test_one_behind_the_other(self):
        self.typed(binding_just("jk", "lm"), (), "jklm", 2)
        self.typed(binding_just("jklm", "xy"), (), "jklmxyjklm", 3)

    def test_only_in_the_given_state(self):
        keymap = (("a",), ("a",), {"go": {}}, ((("jk", {"a": True}, "go"), ("x", {"a": False}, "go")),), WAIT)
        self.typed(keymap, (True,), "jkxx", 1)
        self.typed(keymap, (False,), "jkjk", 0)
        self.blocked(keymap, (False,), "jkx", 2)

    def test_one_letter(self):
        self.typed(binding_just("jk"), (), "j", 0)
        self.assertEqual(call(type_text, binding_just("jk"), (), "z")[2], [])

    def test_forty_letters(self):
        self.typed(binding_just("jk", "klx", "xjkl"), (), LONG, 20)
        self.typed(binding_just("jj"), (), "j" * 40, 39)
        self.typed(binding_just("jjjj"), (), "j" * 40, 13)
        self.typed(with_part(binding_just("jj"), 4, 1000), (), "j" * 40, 39)
        self.typed(with_part(binding_just("jj"), 4, 1), (), "j" * 40, 39)

    def test_what_is_returned_is_new(self):
        for text in ["x", "jjkj"]:
            expected = exactly(type_text(binding_just("jk", "jj"), (), text))
            told = call(type_text, binding_just("jk", "jj"), (), text)
            self.assertIsNot(told[1], told[2])
            told[1].clear()
            told[2].append(None)
            self.assertEqual(exactly(call(type_text, binding_just("jk", "jj"), (), text)), expected)

    def test_all_gaps_of_short_texts(self):
        drawn = random.Random(12)
        seen = {}
        for _ in range(250):
            letters = drawn.choice(["jk", "jkl"])
            sequences = {"".join(drawn.choice(letters) for _ in range(drawn.choice([2, 3, 3, 4])))
                         for _ in range(drawn.randint(1, 5))}
            keymap = with_part(binding_just(*sorted(sequences)), 4, drawn.choice([1, 5, 1000]))
            text = "".join(drawn.choice(letters) for _ in range(drawn.randint(1, 8)))
            number = fewest_pauses(keymap, (), text)
            self.typed(keymap, (), text, number)
            seen[number] = seen.get(number, 0) + 1
        self.assertTrue(all(seen.get(number, 0) > 10 for number in range(4)), seen)

    def test_drawn(self):
        drawn = random.Random(121)
        seen = {"row": 0, "blocked": 0}
        for keymap, state in draw_many(drawn, 400):
            table = bound(keymap, state)
            for letters in ["jkl", "jkxyz", "lx"]:
                text = "".join(drawn.choice(letters) for _ in range(drawn.randint(1, 40)))
                stops = [place for place, letter in enumerate(text) if letter in table]
                seen["blocked" if stops else "row"] += 1
                if stops:
                    self.blocked(keymap, state, text, stops[0])
                else:
                    self.typed(keymap, state, text)
        self.assertGreater(min(seen.values()), 300, seen)


class ApartTest(unittest.TestCase):

    KEYMAP = binding_just("jk", "kl", "jkl", "x", "jklm")

    def judged(self, thing, expected, text="jkljkx", keymap=KEYMAP, state=()):
        with self.subTest(text=text, thing=repr(thing)[:80]):
            self.assertIs(call(is_apart, keymap, state, text, thing), expected)

    def test_right_lists(self):
        for thing in [[], [(0, "jk")], [(0, "jkl")], [(1, "kl")], [(0, "jk"), (1, "kl")], [(0, "jk"), (3, "jk")],
                      [(0, "jkl"), (3, "jk")], [(0, "jk"), (1, "kl"), (3, "jk")], [(5, "x")], [(3, "jk"), (5, "x")]]:
            self.judged(thing, True)

    def test_a_wrong_place(self):
        for place in [1, 2, 4, 5, 6, 7, -1, -6, -3, 10 ** 19, -(10 ** 19), 40]:
            self.judged([(place, "jk")], False)
            self.judged([(0, "jkl"), (place, "jk")], False)

    def test_keys_that_do_not_stand_there(self):
        for keys in ["kl", "x", "jkx", "jklm", "jj", ""]:
            self.judged([(0, keys)], False)
        # Behind the end of the text nothing stands, and less than the keys is not the keys.
        self.judged([(3, "jkl")], False)
        self.judged([(3, "jkl")], False, text="jkljk")
        self.judged([(5, "jk")], False)

    def test_keys_that_are_not_bound(self):
        for thing in [[(0, "j")], [(1, "k")], [(3, "jkx")], [(4, "kx")], [(0, "jklj")], [(0, "jkljk")]]:
            self.judged(thing, False)
        keymap = (("a",), ("a",), {"go": {}}, ((("jk", {"a": True}, "go"), ("jk", {}, None)),), WAIT)
        self.judged([(0, "jk")], True, keymap=keymap, state=(True,))
        self.judged([(0, "jk")], False, keymap=keymap, state=(False,))
        self.judged([], True, keymap=keymap, state=(False,))

    def test_an_entry_twice_or_another_order(self):
        for thing in [[(0, "jk"), (0, "jk")], [(3, "jk"), (0, "jk")], [(5, "x"), (5, "x")], [(5, "x"), (0, "jk")],
                      [(1, "kl"), (0, "jk")], [(0, "jk"), (3, "jk"), (1, "kl")]]:
            self.judged(thing, False)

    def test_two_that_one_pause_breaks(self):
        for thing in [[(0, "jk"), (0, "jkl")], [(0, "jkl"), (1, "kl")], [(0, "jk"), (0, "jkl"), (3, "jk")],
                      [(0, "jkl"), (1, "kl"), (3, "jk")]]:
            self.judged(thing, False)
        keymap = binding_just("jklm", "kl", "lm", "mj", "l", "k")
        self.judged([(0, "jklm"), (2, "l"), (2, "lm")], False, text="jklmj", keymap=keymap)
        self.judged([(0, "jklm"), (1, "k"), (2, "l"), (2, "lm")], False, text="jklmj", keymap=keymap)
        self.judged([(0, "jklm"), (1, "k"), (1, "kl")], False, text="jklmj", keymap=keymap)

    def test_two_that_only_touch(self):
        keymap = binding_just("jklm", "kl", "lm", "mj", "l", "k")
        self.judged([(0, "jklm"), (3, "mj")], True, text="jklmj", keymap=keymap)
        self.judged([(1, "kl"), (2, "lm"), (3, "mj")], True, text="jklmj", keymap=keymap)

    def test_no_pause_breaks_a_single_letter(self):
        keymap = binding_just("jklm", "kl", "lm", "mj", "l", "k")
        self.judged([(1, "k"), (2, "l")], True, text="jklmj", keymap=keymap)
        self.judged([(0, "jklm"), (1, "k"), (2, "l"), (3, "mj")], True, text="jklmj", keymap=keymap)
        self.judged([(1, "k"), (1, "kl"), (2, "l"), (2, "lm"), (3, "mj")], True, text="jklmj", keymap=keymap)
        self.judged([(0, "jk"), (1, "kl"), (5, "x")], True)

    def test_entries_of_other_kinds(self):
        for entry in [(True, "kl"), (False, "jk"), ("0", "jk"), (None, "jk"), (0, None), (0, ["jk"]), (0, ("j", "k")),
                      (0, 0), [0, "jk"], (0,), (0, "jk", 0), ("jk", 0), "jk", ("j", "k"), 0, None, True, {}, (), [],
                      {0: "jk"}, ((0, "jk"),), [(0, "jk")], (0, {}), ([0], "jk"), ((0,), "jk"), (0, "JK"), (0, "j\n")]:
            self.judged([entry], False)
            self.judged([entry, (3, "jk")], False)
            self.judged([(0, "jk"), entry], False)

    def test_lists_of_other_kinds(self):
        for thing in [((0, "jk"),), (), {}, {(0, "jk"): True}, (0, "jk"), None, True, "", "jk", 0,
                      ("row", [], [(0, "jk")]), {0: (0, "jk")}]:
            self.judged(thing, False)
        for thing in STRANGE:
            self.judged(thing, thing == [] and isinstance(thing, list))
            self.judged([(0, "jk"), thing], False)
            self.judged([thing], False)
            self.judged([(thing, "jk")], exactly(thing) == "0")
            self.judged([(0, thing)], False)

    def test_long_lists(self):
        keymap = binding_just("jj", "j")
        text = "j" * 40
        self.judged([(place, "jj") for place in range(39)], True, text, keymap)
        every = sorted([(place, "jj") for place in range(39)] + [(place, "j") for place in range(40)])
        self.judged(every, True, text, keymap)
        self.judged(every + [(39, "jj")], False, text, keymap)
        self.judged([(0, "jj")] * 1000, False, text, keymap)

    def test_drawn(self):
        drawn = random.Random(122)
        seen = {True: 0, False: 0}
        for keymap, state in draw_many(drawn, 500):
            text = "".join(drawn.choice("jjkl") for _ in range(drawn.randint(1, 12)))
            every = occurrences(keymap, state, text)
            for _ in range(3):
                thing = sorted(drawn.sample(every, min(len(every), drawn.randint(1, 4))))
                if drawn.random() < 0.1 and thing:
                    thing.insert(drawn.randrange(len(thing)), drawn.choice(thing))
                expected = thing == sorted(set(thing)) and not one_pause_breaks_two(thing)
                seen[expected] += 1
                self.judged(thing, expected, text, keymap, state)
        self.assertGreater(min(seen.values()), 100, seen)

    def test_no_more_of_them_than_pauses(self):
        drawn = random.Random(123)
        for _ in range(40):
            sequences = sorted({"".join(drawn.choice("jk") for _ in range(drawn.randint(2, 4))) for _ in range(3)})
            keymap = binding_just(*sequences)
            text = "".join(drawn.choice("jk") for _ in range(6))
            every = occurrences(keymap, (), text)
            _, _, chosen = call(type_text, keymap, (), text)
            for thing in product(*[[(), (one,)] for one in every[:11]]):
                thing = [one for part in thing for one in part]
                if is_apart(keymap, (), text, thing):
                    self.assertLessEqual(len(thing), len(chosen))


class WrongTest(unittest.TestCase):

    def refused(self, kind, keymap, state, text):
        for function, rest in [(type_text, ()), (is_apart, ([],)), (is_apart, (None,)), (is_apart, ([(0, "jk")],))]:
            with self.subTest(function=function.__name__, text=repr(text)[:60]):
                with self.assertRaises(ValueError) as caught:
                    call(function, keymap, state, text, *rest)
                self.assertIs(type(caught.exception), kind)

    def test_texts(self):
        for text in ["", "j" * 41, "J", "jK", "j k", " j", "j\n", "\n", "j1", "1", "*", "j*", "\u00e9", "j\u0131",
                     "\ud800", "j" * 2000, "-", "\u0430", "\uff4a"]:
            self.refused(NoKeys, PLAIN, (), text)
        for text in [None, True, 0, 1, ["j"], ("j", "k"), {"j": "k"}, [], (), {}, 10 ** 19]:
            self.refused(NoKeys, PLAIN, (), text)

    def test_of_just_forty_letters(self):
        self.assertEqual(call(type_text, binding_just(), (), "z" * 40)[0], "row")
        self.assertIs(call(is_apart, binding_just(), (), "z" * 40, []), True)

    def test_strange_things(self):
        for thing in STRANGE:
            if thing not in ["a", "j", "key", "jkjkj"]:
                self.refused(NoKeys, PLAIN, (), thing)
            self.refused(NoMap, thing, (), "j")
            self.refused(NoState, KEYMAP, thing, "j")

    def test_the_earliest_error(self):
        for text in ["j", "", None, "j" * 41]:
            for state in [STATES[0], (0, 0), None]:
                self.refused(NoMap, with_part(KEYMAP, 4, True), state, text)
                self.refused(NoMap, None, state, text)
            for state in [(), (0, 0), None, [False, False], (True,)]:
                self.refused(NoState, KEYMAP, state, text)


if __name__ == "__main__":
    unittest.main()
