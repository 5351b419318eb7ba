"""[13] Rows that do commands with the fewest keys, and the tables that show it."""

import random
import unittest
from itertools import product

from keywait.doing import is_table, least_keys
from keywait.errors import NoCommand, NoMap, NoState
from keywait.maps import after, bound
from keywait.reading import is_row, read
from tests.pairs import all_rows, does
from tests.samples import (
    KEYMAP, PLAIN, STATES, STRANGE, WAIT, all_states, call, draw_many, draw_map, draw_state, exactly, keys_in,
    with_part,
)

FALSE, TRUE = (False,), (True,)

# up leads to a, top from there to b; only from outside c is on, and only then is over bound.
STAIRS = (
    ("a", "b", "c"), ("c",),
    {"up": {"a": True}, "top": {"b": True, "a": False}, "go": {}, "over": {"a": True, "b": True}, "gone": {}},
    ((("j", {"a": False}, "up"), ("jkl", {"a": False}, "go"), ("kk", {"a": True}, "top"), ("xyz", {}, "go"),
      ("xy", {"b": True}, "go"), ("j", {"a": True, "c": True}, "over"), ("jjj", {"c": True}, "over")),),
    WAIT,
)
START = (False, False, False)


def moves(keymap, names, state, done):
    """(number of keys, place behind) of each bound sequence and each set entry."""
    found = []
    table = bound(keymap, state)
    for keys, command in table.items():
        found.append((len(keys), (after(keymap, state, command), done + (command == names[done]))))
    for flag, value in product(keymap[1], [False, True]):
        place = keymap[0].index(flag)
        found.append((0, (state[:place] + (value,) + state[place + 1:], done)))
    return found


def plain_table(keymap, names):
    """The fewest keys from each place: all moves, again and again, until nothing is less."""
    ends = {(state, len(names)): 0 for state in all_states(keymap)}
    table = {(state, done): None for state in all_states(keymap) for done in range(len(names))} | ends
    before = None
    while before != table:
        before = dict(table)
        for state, done in table.keys() - ends.keys():
            sums = [many + table[behind] for many, behind in moves(keymap, names, state, done)
                    if table[behind] is not None]
            table[(state, done)] = min(sums, default=None)
    return table


def keeps(keymap, names, thing):
    """Whether the thing is a table, by the words of [13]."""
    places = [(state, done) for state in all_states(keymap) for done in range(len(names) + 1)]
    if type(thing) is not dict or sorted(map(exactly, thing)) != sorted(map(exactly, places)):
        return False
    if not all(value is None or type(value) is int and value >= 0 for value in thing.values()):
        return False
    for state, done in places:
        value = thing[(state, done)]
        if done == len(names):
            if value != 0:
                return False
            continue
        for many, behind in moves(keymap, names, state, done):
            if value is None and thing[behind] is not None:
                return False
            if value is not None and thing[behind] is not None and value > many + thing[behind]:
                return False
    return True


def draw_names(drawn, keymap, most=6):
    """A drawn tuple of commands."""
    return tuple(drawn.choice(sorted(keymap[2])) for _ in range(drawn.randint(1, most)))


def draw_able(drawn, many):
    """So many drawn (keymap, state, names) with a command at least."""
    found = 0
    while found < many:
        keymap = draw_map(drawn)
        if keymap[2]:
            found += 1
            yield keymap, draw_state(drawn, keymap), draw_names(drawn, keymap)


class LeastCase(unittest.TestCase):

    def told(self, keymap, state, names, number):
        """least_keys tells this number, a right row and the table of the fewest keys from everywhere."""
        with self.subTest(state=state, names=names):
            told = call(least_keys, keymap, state, names)
            self.assertEqual((type(told), len(told)), (tuple, 3))
            self.assertEqual(exactly(told[0]), exactly(number))
            if number is None:
                self.assertIsNone(told[1])
            else:
                self.assertIs(call(is_row, keymap, told[1]), True)
                self.assertEqual(keys_in(told[1]), number)
                self.assertTrue(does(read(keymap, state, told[1])[0], names))
            self.assertEqual(exactly(told[2][(state, 0)]), exactly(number))
            self.assertTrue(keeps(keymap, names, told[2]))
            self.assertIs(call(is_table, keymap, names, told[2]), True)
        return told


class LeastTest(LeastCase):

    def test_one_command(self):
        self.told(PLAIN, (), ("down",), 1)
        self.told(PLAIN, (), ("leave",), 2)
        self.told(STAIRS, START, ("up",), 1)
        self.told(STAIRS, START, ("top",), 3)
        self.told(STAIRS, (True, False, False), ("top",), 2)
        self.told(STAIRS, (True, False, False), ("up",), 3)

    def test_the_table_has_just_all_places(self):
        told = self.told(PLAIN, (), ("leave", "down"), 3)
        self.assertEqual(exactly(told[2]), exactly({((), 0): 3, ((), 1): 1, ((), 2): 0}))
        told = self.told(STAIRS, START, ("top",), 3)
        self.assertEqual(set(told[2]), set(product(all_states(STAIRS), [0, 1])))

    def test_six_commands_and_the_same_one_several_times(self):
        self.told(PLAIN, (), ("down",) * 6, 6)
        self.told(PLAIN, (), ("leave",) * 6, 12)
        self.told(PLAIN, (), ("down", "leave", "down", "leave", "leave", "down"), 9)
        self.told(STAIRS, START, ("up", "top", "up", "top", "up", "top"), 9)
        # While a is on, up is not bound: top comes between.
        self.told(STAIRS, START, ("up", "up", "up"), 7)
        self.told(STAIRS, START, ("top", "top"), 6)

    def test_others_between_them(self):
        keymap = (("a",), (), {"on": {"a": True}, "off": {"a": False}},
                  ((("j", {"a": False}, "on"), ("kk", {"a": True}, "off")),), WAIT)
        self.told(keymap, FALSE, ("on", "on"), 4)
        self.told(keymap, TRUE, ("on",), 3)
        self.told(keymap, TRUE, ("off", "off", "on"), 6)

    def test_only_a_change_from_outside_makes_it_possible(self):
        told = self.told(STAIRS, START, ("over",), 2)
        self.assertEqual([entry[0] for entry in told[1]].count("set"), 1)
        self.told(STAIRS, (True, False, False), ("over",), 1)
        self.told(with_part(STAIRS, 1, ()), START, ("over",), None)
        keymap = (("a",), ("a",), {"on": {}, "off": {}},
                  ((("j", {"a": True}, "on"), ("j", {"a": False}, "off")),), WAIT)
        self.told(keymap, FALSE, ("on", "off", "on", "off"), 4)
        self.told(with_part(keymap, 1, ()), FALSE, ("off", "off"), 2)
        self.told(with_part(keymap, 1, ()), FALSE, ("off", "on"), None)

    def test_what_cannot_be_done(self):
        for names in [("gone",), ("up", "gone"), ("gone", "up"), ("up",) * 5 + ("gone",)]:
            told = self.told(STAIRS, START, names, None)
            self.assertEqual(told[:2], (None, None))
            done = names.index("gone")
            self.assertTrue(all(told[2][(state, place)] is None
                                for state in all_states(STAIRS) for place in range(done + 1)))
        # From elsewhere it can be done: the table tells for all states.
        keymap = (("a",), (), {"on": {"a": True}, "go": {}}, ((("j", {}, "on"), ("k", {"a": False}, "go")),), WAIT)
        told = self.told(keymap, TRUE, ("go",), None)
        self.assertEqual(exactly(told[2]), exactly({(FALSE, 0): 1, (TRUE, 0): None, (FALSE, 1): 0, (TRUE, 1): 0}))
        self.told(keymap, FALSE, ("on", "go"), None)
        self.told(keymap, FALSE, ("go", "on"), 2)

    def test_bound_by_several_sequences(self):
        keymap = with_part(PLAIN, 3, ((("jklm", {}, "down"), ("xyz", {}, "down"), ("jk", {}, "down"),
                                       ("lm", {}, "leave"), ("abc", {}, "leave")),))
        self.told(keymap, (), ("down",), 2)
        self.told(keymap, (), ("down", "leave", "down"), 6)
        # A longer sequence is taken where the shorter one is bound to another command.
        self.told(with_part(keymap, 3, ((("jk", {}, None),), *keymap[3])), (), ("down",), 3)

    def test_a_longer_sequence_that_leads_to_a_better_state(self):
        keymap = (("a", "b"), (), {"near": {"a": True}, "far": {"b": True}, "go": {}},
                  ((("j", {"b": False}, "near"), ("kk", {}, "far"), ("xyzw", {"b": False}, "go"),
                    ("x", {"b": True}, "go")),), WAIT)
        self.told(keymap, (False, False), ("go",), 3)
        self.told(keymap, (False, False), ("near", "go"), 4)
        self.told(keymap, (False, False), ("go", "near"), 5)
        self.told(keymap, (False, False), ("go", "near", "go"), 8)

    def test_what_is_returned_is_new(self):
        for names in [("up", "top"), ("gone",)]:
            expected = exactly(least_keys(STAIRS, START, names))
            told = call(least_keys, STAIRS, START, names)
            if told[1] is not None:
                told[1].clear()
            told[2].clear()
            self.assertEqual(exactly(call(least_keys, STAIRS, START, names)), expected)

    def test_drawn(self):
        drawn = random.Random(13)
        seen = {}
        for keymap, state, names in draw_able(drawn, 300):
            table = plain_table(keymap, names)
            number = table[(state, 0)]
            told = self.told(keymap, state, names, number)
            self.assertTrue(all(told[2][place] is None or told[2][place] <= table[place] for place in table))
            seen[number is None] = seen.get(number is None, 0) + 1
        self.assertGreater(min(seen.values()), 50, seen)

    def test_a_search_over_short_rows(self):
        drawn = random.Random(131)
        seen = {}
        for _ in range(70):
            keymap = (("a", "b"), ("b",)[:drawn.randint(0, 1)], {"up": {"a": True}, "go": {"a": False, "b": True}},
                      (tuple((drawn.choice(["j", "k", "jk", "kj", "jj"]),
                              {flag: True for flag in "ab" if drawn.random() < 0.2},
                              drawn.choice(["up", "go", "up", "go", None])) for _ in range(4)),), 2)
            state, names = draw_state(drawn, keymap), draw_names(drawn, keymap, 3)
            numbers = [keys_in(row) for row in all_rows(keymap, "jk", [0, 3], 3)
                       if does(read(keymap, state, row)[0], names)]
            # A row may also begin with a set entry: all_rows has them before each key.
            number, _, _ = call(least_keys, keymap, state, names)
            if numbers:
                self.assertEqual(number, min(numbers))
            else:
                self.assertTrue(number is None or number > 3)
            seen[min(numbers, default=None)] = seen.get(min(numbers, default=None), 0) + 1
        self.assertTrue(all(seen.get(number, 0) > 2 for number in [None, 1, 2, 3]), seen)


class TableTest(unittest.TestCase):

    def judged(self, keymap, names, thing, expected):
        with self.subTest(names=names, thing=repr(thing)[:80]):
            self.assertIs(call(is_table, keymap, names, thing), expected)
            self.assertIs(keeps(keymap, names, thing), expected)

    NAMES = ("up", "top", "gone")

    def test_what_is_told_from_every_state(self):
        for names in [("up",), ("top", "top"), ("up", "gone", "up"), ("over", "go")]:
            for state in all_states(STAIRS):
                self.judged(STAIRS, names, call(least_keys, STAIRS, state, names)[2], True)

    def test_all_values_nothing(self):
        for keymap, names in [(PLAIN, ("down",)), (STAIRS, ("top", "up")), (STAIRS, self.NAMES)]:
            places = product(all_states(keymap), range(len(names) + 1))
            self.judged(keymap, names, {place: 0 for place in places}, True)

    def test_smaller_values(self):
        table = plain_table(PLAIN, ("leave", "down", "leave"))
        self.assertEqual(exactly(table), exactly({((), 0): 5, ((), 1): 3, ((), 2): 2, ((), 3): 0}))
        for values, expected in [((5, 3, 2), True), ((4, 3, 2), True), ((4, 2, 1), True), ((0, 3, 0), False),
                                 ((0, 1, 0), True), ((5, 2, 2), False), ((4, 2, 2), True), ((3, 1, 1), True),
                                 ((6, 3, 2), False), ((5, 4, 2), False), ((5, 3, 3), False), ((0, 0, 0), True)]:
            thing = {((), done): value for done, value in enumerate((*values, 0))}
            self.judged(PLAIN, ("leave", "down", "leave"), thing, expected)

    def test_one_value_wrong(self):
        for names in [("top", "up"), self.NAMES]:
            table = plain_table(STAIRS, names)
            for place, value in table.items():
                for other in [-1, -10, True, False, "", "0", [0], (0,), {}, 10 ** 19]:
                    thing = {**table, place: other}
                    if type(other) is int and value is None:
                        self.judged(STAIRS, names, thing, keeps(STAIRS, names, thing))
                    else:
                        self.judged(STAIRS, names, thing, False)
                if value is not None:
                    self.judged(STAIRS, names, {**table, place: value + 1}, False)
                    self.judged(STAIRS, names, {**table, place: None}, False)

    def test_a_number_in_place_of_none(self):
        keymap = (("a",), (), {"on": {"a": True}, "off": {"a": False}, "go": {}},
                  ((("j", {"a": False}, "on"), ("k", {}, "on")),), WAIT)
        table = plain_table(keymap, ("go",))
        self.assertEqual(exactly(table), exactly({(FALSE, 0): None, (TRUE, 0): None, (FALSE, 1): 0, (TRUE, 1): 0}))
        for value in [0, 1, 10 ** 19]:
            self.judged(keymap, ("go",), {**table, (TRUE, 0): value}, False)
            # Nothing that is None leads to it.
            self.judged(keymap, ("go",), {**table, (FALSE, 0): value}, True)
            self.judged(keymap, ("go",), {**table, (FALSE, 0): value, (TRUE, 0): value}, True)
        self.judged(keymap, ("go",), {**table, (FALSE, 0): 5, (TRUE, 0): 3}, False)
        self.judged(keymap, ("go",), {**table, (FALSE, 0): 4, (TRUE, 0): 3}, True)
        outside = with_part(keymap, 1, ("a",))
        self.judged(outside, ("go",), {**table, (FALSE, 0): 3}, False)
        self.judged(outside, ("go",), {**table, (FALSE, 0): 3, (TRUE, 0): 3}, True)
        self.judged(outside, ("go",), {**table, (FALSE, 0): 3, (TRUE, 0): 2}, False)

    def test_set_entries_cost_nothing(self):
        keymap = (("a",), ("a",), {"go": {}}, ((("jk", {"a": True}, "go"), ("jkl", {}, "go")),), WAIT)
        ends = {(FALSE, 1): 0, (TRUE, 1): 0}
        for low, high, expected in [(2, 2, True), (3, 2, False), (2, 3, False), (1, 2, False), (1, 1, True),
                                    (None, 2, False), (2, None, False), (None, None, False)]:
            self.judged(keymap, ("go",), {(FALSE, 0): low, (TRUE, 0): high, **ends}, expected)
        keymap = with_part(keymap, 1, ())
        for low, high, expected in [(3, 2, True), (2, 2, True), (3, 0, True), (0, 2, True), (4, 2, False),
                                    (3, 3, False), (None, 2, False)]:
            self.judged(keymap, ("go",), {(FALSE, 0): low, (TRUE, 0): high, **ends}, expected)

    def test_none_where_all_is_done(self):
        table = plain_table(STAIRS, ("gone",))
        for state in all_states(STAIRS):
            for value in [None, 1, -1, False, "0"]:
                self.judged(STAIRS, ("gone",), {**table, (state, 1): value}, False)

    def test_a_place_left_out_or_one_more(self):
        for names in [("top", "up"), self.NAMES]:
            table = plain_table(STAIRS, names)
            for place in table:
                self.judged(STAIRS, names, {one: table[one] for one in table if one != place}, False)
            for more in [(START, len(names) + 1), (START, -1), (START, None), (START, "0"), (START[:2], 0), START,
                         ((), 0), (START,), (START, 0, 0), ((0, 0, 2), 0), 0, "a", None, True, ()]:
                for value in [0, None]:
                    self.judged(STAIRS, names, {**table, more: value}, False)
                    fewer = {one: table[one] for one in table if one != (START, 0)}
                    self.judged(STAIRS, names, {**fewer, more: value}, False)
        self.judged(STAIRS, ("up",), plain_table(STAIRS, ("up", "up")), False)
        self.judged(STAIRS, ("up", "up"), plain_table(STAIRS, ("up",)), False)
        self.judged(PLAIN, ("down",), plain_table(STAIRS, ("up",)), False)

    def test_keys_that_are_equal_but_of_another_kind(self):
        table = plain_table(PLAIN, ("down",))
        self.judged(PLAIN, ("down",), {((), 0): 1, ((), True): 0}, False)
        self.judged(PLAIN, ("down",), {((), False): 1, ((), 1): 0}, False)
        self.judged(PLAIN, ("down",), table, True)
        keymap = (("a",), (), {"go": {}}, ((("j", {}, "go"),),), WAIT)
        self.judged(keymap, ("go",), {((0,), 0): 1, (TRUE, 0): 1, (FALSE, 1): 0, (TRUE, 1): 0}, False)
        self.judged(keymap, ("go",), {(FALSE, 0): 1, (TRUE, 0): 1, (FALSE, 1): 0, ((1,), 1): 0}, False)

    def test_strange_things(self):
        table = plain_table(PLAIN, ("down",))
        for thing in [*STRANGE, list(table), list(table.items()), tuple(table.items()), (1, [], table), [table]]:
            self.judged(PLAIN, ("down",), thing, False)
        for thing in STRANGE:
            self.judged(PLAIN, ("down",), {**table, ((), 0): thing}, exactly(thing) in ["0", "1"])
            self.judged(PLAIN, ("down",), {**table, ((), 1): thing}, exactly(thing) == "0")

    def test_the_order_of_a_dict_means_nothing(self):
        table = plain_table(STAIRS, self.NAMES)
        self.judged(STAIRS, self.NAMES, dict(reversed(table.items())), True)

    def test_drawn(self):
        drawn = random.Random(132)
        seen = {True: 0, False: 0}
        for keymap, _, names in draw_able(drawn, 300):
            table = plain_table(keymap, names)
            for _ in range(3):
                thing = dict(table)
                for _ in range(drawn.randint(0, 3)):
                    place = drawn.choice(sorted(table))
                    value = thing[place]
                    near = [0, None] if value is None else [value - 1, value - 1, value + 1, 0, None]
                    thing[place] = drawn.choice(near)
                less = drawn.randint(0, 2)
                thing = {place: value if value is None else max(0, value - less) for place, value in thing.items()}
                expected = keeps(keymap, names, thing)
                seen[expected] += 1
                self.judged(keymap, names, thing, expected)
        self.assertGreater(min(seen.values()), 200, seen)

    def test_no_right_value_is_greater_than_the_fewest_keys(self):
        drawn = random.Random(133)
        for keymap, _, names in draw_able(drawn, 150):
            table = plain_table(keymap, names)
            thing = {place: drawn.choice([value, 0, value and value - 1]) for place, value in table.items()}
            if is_table(keymap, names, thing):
                for place, value in thing.items():
                    self.assertTrue(value is None or table[place] is None or value <= table[place])


class WrongTest(unittest.TestCase):

    def refused(self, kind, keymap, state, names):
        for function, arguments in [(least_keys, (keymap, state, names)), (is_table, (keymap, names, {})),
                                    (is_table, (keymap, names, None))]:
            if kind is NoState and function is is_table:
                continue
            with self.subTest(function=function.__name__, names=repr(names)[:60]):
                with self.assertRaises(ValueError) as caught:
                    call(function, *arguments)
                self.assertIs(type(caught.exception), kind)

    def test_names(self):
        for names in [(), ("down",) * 7, ("down",) * 1999, ["down"], ["down", "leave"], "down", {"down": {}},
                      ("up",), ("down", "up"), ("down", "leave", ""), ("Down",), ("down", None), (None,),
                      ("down", True), ("down", 0), ("down", ["leave"]), (["down"],), ({},), (("down",),), None, True,
                      0, 1, {}, [], "", ("down\n",), ("down ",)]:
            self.refused(NoCommand, PLAIN, (), names)
        self.refused(NoCommand, with_part(with_part(PLAIN, 3, ((),)), 2, {}), (), ("down",))

    def test_strange_things(self):
        for thing in STRANGE:
            self.refused(NoCommand, PLAIN, (), thing)
            self.refused(NoCommand, PLAIN, (), ("down", thing))
            self.refused(NoMap, thing, (), ("down",))
            self.refused(NoState, KEYMAP, thing, ("go",))

    def test_of_just_six(self):
        self.assertEqual(call(least_keys, PLAIN, (), ("down",) * 6)[0], 6)

    def test_the_earliest_error(self):
        for names in [("go",), (), None, ["go"]]:
            for state in [STATES[0], (0, 0), None]:
                self.refused(NoMap, with_part(KEYMAP, 4, True), state, names)
                self.refused(NoMap, None, state, names)
            for state in [(), (0, 0), None, [False, False], (True,)]:
                self.refused(NoState, KEYMAP, state, names)

    def test_drawn_ones_raise_nothing(self):
        drawn = random.Random(134)
        for keymap, state in draw_many(drawn, 60):
            for name in keymap[2]:
                self.assertEqual(len(call(least_keys, keymap, state, (name,))), 3)


if __name__ == "__main__":
    unittest.main()
