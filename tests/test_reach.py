"""[8] Reachable states, the fewest keys to each, and closed lists."""

import random
import unittest
from itertools import product

from keywait.errors import NoMap, NoState
from keywait.reach import is_closed, reachable
from keywait.reading import is_row, read
from tests.samples import (
    KEYMAP, PLAIN, STATES, STRANGE, WAIT, all_states, call, draw_many, draw_state, exactly, keys_in, plain_edges,
    plain_numbers, typed, with_part,
)

# a only by a command, b only from outside, c by nothing that fires; two keys are fewer than three.
THREE = (
    ("a", "b", "c"), ("b",), {"on": {"a": True}, "off": {"a": False}, "both": {"a": True, "c": True}},
    ((("xyz", {}, "on"), ("xy", {"b": True}, "on"), ("jkl", {"c": True}, "both"), ("zz", {"a": True}, "off")),),
    WAIT,
)


def numbers(found):
    """What reachable returned, without the rows."""
    return {here: number for here, (number, _) in found.items()}


class ReachableCase(unittest.TestCase):

    def reaches(self, keymap, state):
        """What reachable returns, after a check of its form and of its rows."""
        found = call(reachable, keymap, state)
        self.assertIs(type(found), dict)
        for here, told in found.items():
            self.assertTrue(isinstance(told, tuple) and len(told) == 2)
            number, row = told
            self.assertIs(type(number), int)
            self.assertIs(call(is_row, keymap, row), True)
            self.assertEqual(keys_in(row), number)
            self.assertEqual(exactly(read(keymap, state, row)[1]), exactly(here))
        return found


class ReachableTest(ReachableCase):

    def test_no_flags(self):
        for keymap in [PLAIN, with_part(PLAIN, 3, ((),))]:
            self.assertEqual(exactly(self.reaches(keymap, ())), exactly({(): (0, [])}))

    def test_nothing_changes_a_flag(self):
        keymap = (("a", "b"), (), {"go": {}, "up": {"a": True}}, ((("j", {}, "go"), ("k", {"b": True}, "up")),), WAIT)
        for state in STATES:
            expected = {state: 0}
            if state[1]:
                expected[(True, True)] = 0 if state[0] else 1
            self.assertEqual(numbers(self.reaches(keymap, state)), expected)

    def test_set_entries_cost_no_keys(self):
        keymap = (("a", "b"), ("a", "b"), {}, ((),), WAIT)
        for state in STATES:
            self.assertEqual(numbers(self.reaches(keymap, state)), {here: 0 for here in STATES})

    def test_only_flags_from_outside_are_set(self):
        keymap = (("a", "b"), ("b",), {"up": {"a": True}}, ((),), WAIT)
        self.assertEqual(numbers(self.reaches(keymap, (False, False))), {(False, False): 0, (False, True): 0})
        self.assertEqual(numbers(self.reaches(keymap, (True, True))), {(True, False): 0, (True, True): 0})

    def test_three_flags(self):
        self.assertEqual(numbers(self.reaches(THREE, (False, False, False))), {
            (False, False, False): 0, (False, True, False): 0, (True, False, False): 2, (True, True, False): 2})
        self.assertEqual(numbers(self.reaches(THREE, (True, False, True))), {
            (True, False, True): 0, (True, True, True): 0, (False, False, True): 2, (False, True, True): 2})

    def test_all_eight_states(self):
        keymap = (("a", "b", "c"), (), {
            "one": {"a": True}, "two": {"a": False, "b": True}, "three": {"a": False, "b": False, "c": True},
        }, ((("j", {"a": False}, "one"), ("j", {"a": True, "b": False}, "two"), ("j", {"c": False}, "three")),), WAIT)
        expected = {here: place for place, here in enumerate(
            [(False, False, False), (True, False, False), (False, True, False), (True, True, False),
             (False, False, True), (True, False, True), (False, True, True), (True, True, True)])}
        self.assertEqual(numbers(self.reaches(keymap, (False, False, False))), expected)
        self.assertEqual(set(self.reaches(keymap, (True, True, True))), {(True, True, True)})

    def test_the_fewest_keys_over_several_states(self):
        keymap = (("a", "b"), (), {"far": {"a": True, "b": True}, "one": {"a": True}, "two": {"b": True}},
                  ((("jjjj", {}, "far"), ("k", {}, "one"), ("ll", {"a": True}, "two")),), WAIT)
        self.assertEqual(numbers(self.reaches(keymap, (False, False))),
                         {(False, False): 0, (True, False): 1, (True, True): 3})
        keymap = with_part(keymap, 3, ((("jj", {}, "far"), ("k", {}, "one"), ("ll", {"a": True}, "two")),))
        self.assertEqual(numbers(self.reaches(keymap, (False, False)))[(True, True)], 2)

    def test_a_longer_way_is_found_first(self):
        keymap = (("a", "b"), (), {"far": {"b": True}, "one": {"a": True}, "two": {"b": True, "a": False}},
                  ((("jkl", {}, "far"), ("k", {}, "one"), ("l", {"a": True}, "two")),), WAIT)
        self.assertEqual(numbers(self.reaches(keymap, (False, False))),
                         {(False, False): 0, (True, False): 1, (False, True): 2, (True, True): 3})

    def test_a_sequence_is_its_own_burst(self):
        # Without a pause between them, j and then k would be jk.
        keymap = (("a", "b"), (), {"one": {"a": True}, "two": {"b": True}, "no": {}},
                  ((("j", {}, "one"), ("jk", {}, "no"), ("k", {"a": True}, "two")),), WAIT)
        for wait in [1, 5, 1000]:
            found = self.reaches(with_part(keymap, 4, wait), (False, False))
            self.assertEqual(numbers(found), {(False, False): 0, (True, False): 1, (True, True): 2})

    def test_an_unbound_sequence_leads_nowhere(self):
        keymap = (("a",), (), {"up": {"a": True}}, ((("j", {}, None), ("j", {}, "up")),), WAIT)
        self.assertEqual(numbers(self.reaches(keymap, (False,))), {(False,): 0})

    def test_all_that_is_returned_is_new(self):
        for keymap, state in [(KEYMAP, (False, False)), (THREE, (False,) * 3), (PLAIN, ())]:
            expected = exactly(reachable(keymap, state))
            found = call(reachable, keymap, state)
            rows = [row for _, row in found.values()]
            self.assertEqual(len({id(row) for row in rows}), len(rows))
            for row in rows:
                row.append(("key", "x", 0))
                row[0] = None
            found.clear()
            self.assertEqual(exactly(call(reachable, keymap, state)), expected)

    def test_drawn(self):
        drawn = random.Random(8)
        sizes = {}
        for keymap, state in draw_many(drawn, 400):
            found = self.reaches(keymap, state)
            self.assertEqual(numbers(found), plain_numbers(keymap, state))
            for number, _ in found.values():
                sizes[number] = sizes.get(number, 0) + 1
        self.assertGreater(sizes[2], 10)
        self.assertGreater(sizes[3], 10)

    def test_all_rows_of_few_keys(self):
        drawn = random.Random(81)
        for _ in range(12):
            keymap = (("a", "b"), ("b",)[:drawn.randint(0, 1)], {"up": {"a": True}, "go": {"a": False, "b": True}},
                      (tuple((drawn.choice(["j", "k", "jk", "kj", "jj"]), {flag: True for flag in "ab"
                              if drawn.random() < 0.4}, drawn.choice(["up", "go", None])) for _ in range(4)),), 2)
            state = draw_state(drawn, keymap)
            found = numbers(self.reaches(keymap, state))
            # Before each key, and behind the last: nothing, a pause, or a set entry and a pause.
            breaks = [None, ()] + [((flag, value),) for flag in keymap[1] for value in (False, True)]
            for many in range(4):
                for letters, gaps in product(product("jk", repeat=many), product(breaks, repeat=many + 1)):
                    row, time = [], 0
                    for letter, gap in zip([*letters, None], gaps):
                        time += 0 if gap is None else 3
                        row += [("set", *setting, time) for setting in gap or ()]
                        row += [("key", letter, time)] if letter else []
                    here = read(keymap, state, row)[1]
                    self.assertLessEqual(found[here], many)


class ClosedTest(unittest.TestCase):

    def closed(self, keymap, state, thing, expected):
        with self.subTest(state=state, thing=repr(thing)[:60]):
            self.assertIs(call(is_closed, keymap, state, thing), expected)

    def test_no_flags(self):
        self.closed(PLAIN, (), [()], True)
        for thing in [[], [(), ()], (), ((),), {(): True}, [[]], [(True,)], [None], [()] * 3]:
            self.closed(PLAIN, (), thing, False)

    def test_the_reachable_states(self):
        for state in STATES:
            self.closed(KEYMAP, state, sorted(reachable(KEYMAP, state)), True)
            self.closed(KEYMAP, state, STATES, True)
        for state in all_states(THREE):
            self.closed(THREE, state, sorted(reachable(THREE, state)), True)
            self.closed(THREE, state, all_states(THREE), True)

    def test_one_left_out_or_twice_or_in_another_order(self):
        for keymap, state in [(THREE, (False, False, False)), (KEYMAP, (False, False)), (KEYMAP, (True, True))]:
            found = sorted(reachable(keymap, state))
            for place in range(len(found)):
                self.closed(keymap, state, found[:place] + found[place + 1:], False)
                self.closed(keymap, state, found[:place] + [found[place]] + found[place:], False)
                if place:
                    turned = found[:place - 1] + [found[place], found[place - 1]] + found[place + 1:]
                    self.closed(keymap, state, turned, False)
            self.closed(keymap, state, found[::-1], False)

    def test_more_states(self):
        state = (True, False, False)
        self.closed(THREE, state, [here for here in all_states(THREE) if not here[2]], True)
        self.closed(THREE, state, [here for here in all_states(THREE) if here[2]], False)
        # From a state with c, zz and what is set lead to the others with c.
        more = [here for here in all_states(THREE) if not here[2]] + [(True, True, True)]
        self.closed(THREE, state, sorted(more), False)

    def test_without_the_start_state(self):
        keymap = (("a",), (), {}, ((),), WAIT)
        self.closed(keymap, (False,), [(False,)], True)
        self.closed(keymap, (False,), [(False,), (True,)], True)
        self.closed(keymap, (False,), [(True,)], False)
        self.closed(keymap, (False,), [], False)

    def test_only_what_is_bound_in_the_state_counts(self):
        keymap = (("a", "b"), (), {"up": {"b": True}, "go": {}},
                  ((("j", {"a": False}, None), ("j", {}, "up"), ("k", {"b": True}, "up")),), WAIT)
        self.closed(keymap, (False, False), [(False, False)], True)
        self.closed(keymap, (True, False), [(True, False)], False)
        self.closed(keymap, (True, False), [(True, False), (True, True)], True)

    def test_states_behind_set_entries_alone(self):
        keymap = (("a", "b"), ("a",), {}, ((),), WAIT)
        self.closed(keymap, (False, False), [(False, False)], False)
        self.closed(keymap, (False, False), [(False, False), (True, False)], True)
        self.closed(keymap, (True, False), [(True, False)], False)

    def test_states_of_another_size_or_kind(self):
        for odd in [(), (True,), (False, False, False), (False, 0), (0, 0), [False, False], None, "ff", True,
                    (None, False), ("a", "b"), 0, {}]:
            self.closed(KEYMAP, (False, False), [odd, *STATES], False)
            self.closed(KEYMAP, (False, False), [*STATES, odd], False)
        # Equal to the list of all states, but of integers.
        self.closed(KEYMAP, (False, False), [(0, 0), (0, 1), (1, 0), (1, 1)], False)
        self.closed(KEYMAP, (False, False), [(False, False), (False, 1), (True, False), (True, True)], False)

    def test_strange_things(self):
        for thing in [*STRANGE, tuple(STATES), {here: True for here in STATES}, [STATES], [tuple(STATES)]]:
            self.closed(KEYMAP, (False, False), thing, False)

    def test_drawn(self):
        drawn = random.Random(82)
        found = {True: 0, False: 0}
        for keymap, state in draw_many(drawn, 500):
            states = [here for here in all_states(keymap) if drawn.random() < 0.7]
            expected = state in states and all(
                behind in states for here in states for _, behind in plain_edges(keymap, here))
            found[expected] += 1
            self.closed(keymap, state, states, expected)
            self.closed(keymap, state, sorted(plain_numbers(keymap, state)), True)
        self.assertGreater(min(found.values()), 100)


class WrongTest(unittest.TestCase):

    def test_the_earliest_error(self):
        for function, rest in [(reachable, ()), (is_closed, ([(False, False)],)), (is_closed, (None,))]:
            for keymap in [None, KEYMAP[:4], with_part(KEYMAP, 4, True)]:
                for state in [(False, False), None]:
                    with self.assertRaises(NoMap):
                        call(function, keymap, state, *rest)
            for state in [None, (), (0, 0), (True,), [True, False], (True, False, True)]:
                with self.assertRaises(NoState):
                    call(function, KEYMAP, state, *rest)

    def test_a_returned_row_may_be_passed(self):
        for here, (_, row) in call(reachable, THREE, (False,) * 3).items():
            self.assertEqual(call(read, THREE, (False,) * 3, row)[1], here)
            self.assertEqual(call(read, THREE, (False,) * 3, row + typed("x", 10 ** 6))[1], here)


if __name__ == "__main__":
    unittest.main()
