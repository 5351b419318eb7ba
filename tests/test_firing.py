"""[9] Whether a binding can fire: a row in which it does, or reasons why it never does."""

import random
import unittest

from keywait.errors import NoBinding, NoMap, NoState
from keywait.maps import winner
from keywait.reach import firing, is_never, reachable
from keywait.reading import is_row
from tests.samples import (
    KEYMAP, PLAIN, STRANGE, WAIT, all_states, call, draw_many, exactly, keys_in, plain_edges, plain_numbers,
    plain_steps, with_part,
)

# i is bound behind jj, or where a is on.
STAIRS = (
    ("a", "b"), (), {"up": {"a": True}, "top": {"b": True}, "go": {}},
    ((("jj", {}, "up"), ("k", {"b": True}, None), ("x", {"a": True, "b": False}, None)),
     (("k", {"a": True}, "top"), ("i", {"a": True}, "go"), ("x", {}, "go"), ("i", {}, "go"))),
    WAIT,
)
OFF = (False, False)

# "j" is the first binding's wherever a holds, and nothing turns a off.
HIDDEN = (
    ("a", "b"), ("b",), {"go": {}, "on": {"a": True}},
    ((("j", {"a": True}, None),), (),
     (("j", {"b": True}, "go"), ("k", {"a": False, "b": True}, "go"), ("j", {}, "on"))),
    WAIT,
)


def right_reason(keymap, state, layer, index, thing):
    """Whether the thing is a reason, by the words of [9]."""
    keys, condition, _ = keymap[3][layer][index]
    facts = dict(zip(keymap[0], state))
    reasons = [exactly(("condition", flag)) for flag in condition if facts[flag] != condition[flag]]
    first = winner(keymap, state, keys)
    if first is not None and first < (layer, index):
        reasons.append(exactly(("stronger", *first)))
    return exactly(thing) in reasons


def all_reasons(keymap):
    """All that has the form of a reason."""
    found = [("condition", flag) for flag in keymap[0]]
    return found + [("stronger", layer, index) for layer, row in enumerate(keymap[3]) for index in range(len(row))]


def bindings(keymap):
    """The place of each binding that has a command."""
    return [(layer, index) for layer, row in enumerate(keymap[3])
            for index, binding in enumerate(row) if binding[2] is not None]


class FiringCase(unittest.TestCase):

    def fires(self, keymap, state, place, number):
        """firing returns a row of so many keys in which the binding fires."""
        told = call(firing, keymap, state, *place)
        with self.subTest(state=state, place=place):
            self.assertEqual((type(told), len(told), told[0]), (tuple, 2, "row"))
            row = told[1]
            self.assertIs(call(is_row, keymap, row), True)
            self.assertEqual(keys_in(row), number)
            keys = keymap[3][place[0]][place[1]][0]
            fired = [here for here, event in plain_steps(keymap, state, row) if event[0] == "do" and event[2] == keys]
            self.assertTrue(any(winner(keymap, here, keys) == place for here in fired))
        return told

    def never(self, keymap, state, place):
        """firing returns right reasons, for just the reachable states."""
        told = call(firing, keymap, state, *place)
        with self.subTest(state=state, place=place):
            self.assertEqual((type(told), len(told), told[0]), (tuple, 2, "never"))
            self.assertEqual(exactly({here: 0 for here in told[1]}),
                             exactly({here: 0 for here in reachable(keymap, state)}))
            for here, reason in told[1].items():
                self.assertTrue(right_reason(keymap, here, *place, reason))
            self.assertIs(call(is_never, keymap, state, *place, told[1]), True)
        return told[1]


class FiringTest(FiringCase):

    def test_it_fires_at_once(self):
        for place, row in [((0, 0), [("key", "j", 0)]), ((0, 1), [("key", "j", 0), ("key", "k", 0)])]:
            told = self.fires(PLAIN, (), place, len(row))
            self.assertEqual([entry[:2] for entry in told[1]], [entry[:2] for entry in row])
        self.fires(STAIRS, OFF, (0, 0), 2)
        self.fires(STAIRS, (True, False), (1, 0), 1)

    def test_hidden_by_a_stronger_one(self):
        keymap = ((), (), {"down": {}, "up": {}}, ((("j", {}, "down"), ("j", {}, "up")),), 5)
        self.assertEqual(exactly(self.never(keymap, (), (0, 1))), exactly({(): ("stronger", 0, 0)}))
        self.fires(keymap, (), (0, 0), 1)

    def test_hidden_by_one_that_unbinds(self):
        keymap = ((), (), {"up": {}}, ((("k", {}, "up"), ("j", {}, None)), (("jj", {}, "up"), ("j", {}, "up"))), 5)
        self.assertEqual(exactly(self.never(keymap, (), (1, 1))), exactly({(): ("stronger", 0, 1)}))
        self.fires(keymap, (), (1, 0), 2)

    def test_a_condition_that_never_holds(self):
        keymap = (("a", "b"), ("b",), {"go": {}},
                  ((("j", {"a": True}, "go"), ("j", {"a": False, "b": True}, "go")),), WAIT)
        expected = {(False, False): ("condition", "a"), (False, True): ("condition", "a")}
        self.assertEqual(exactly(self.never(keymap, OFF, (0, 0))), exactly(expected))
        self.fires(keymap, OFF, (0, 1), 1)
        expected = {(True, False), (True, True)}
        self.assertEqual(set(self.never(keymap, (True, False), (0, 1))), expected)

    def test_one_that_wins_only_behind_keys(self):
        self.fires(STAIRS, OFF, (1, 0), 3)
        self.fires(STAIRS, OFF, (1, 1), 3)
        self.fires(STAIRS, (True, False), (1, 1), 1)
        self.fires(STAIRS, OFF, (1, 2), 1)
        self.fires(STAIRS, (True, False), (1, 2), 2)
        self.fires(STAIRS, OFF, (1, 3), 1)
        self.never(STAIRS, (True, False), (1, 3))

    def test_one_that_wins_only_behind_a_set_entry(self):
        told = self.fires(HIDDEN, OFF, (2, 1), 1)
        self.assertEqual([entry[:-1] for entry in told[1]], [("set", "b", True), ("key", "k")])
        self.fires(HIDDEN, OFF, (2, 2), 1)
        self.fires(HIDDEN, (False, True), (2, 0), 1)
        self.fires(HIDDEN, (False, True), (2, 2), 1)

    def test_the_nearest_state_is_taken(self):
        # One key leads to a, two lead to b, three more to c.
        keymap = (("a", "b", "c"), (), {"near": {"a": True}, "far": {"b": True}, "next": {"c": True}, "go": {}},
                  ((("x", {"c": True}, "go"), ("xxx", {"b": True}, "go"), ("k", {}, "near"), ("ll", {}, "far"),
                    ("jjj", {"a": True}, "next"), ("l", {"a": True, "b": True}, "next")),), WAIT)
        start = (False, False, False)
        self.fires(keymap, start, (0, 0), 5)
        self.fires(keymap, start, (0, 1), 5)
        self.fires(keymap, start, (0, 4), 4)
        self.fires(keymap, start, (0, 5), 4)

    def test_other_bindings_with_the_same_keys_fire_elsewhere(self):
        keymap = (("a",), ("a",), {"go": {}},
                  ((("j", {"a": True}, "go"), ("j", {}, "go"), ("j", {"a": False}, "go")),), WAIT)
        self.fires(keymap, (False,), (0, 0), 1)
        self.fires(keymap, (True,), (0, 1), 1)
        reasons = self.never(keymap, (True,), (0, 2))
        self.assertEqual(exactly(reasons[(False,)]), exactly(("stronger", 0, 1)))

    def test_what_is_returned_is_new(self):
        for keymap, state, place in [(STAIRS, OFF, (1, 0)), (STAIRS, (True, False), (1, 3)), (PLAIN, (), (0, 1))]:
            expected = exactly(firing(keymap, state, *place))
            call(firing, keymap, state, *place)[1].clear()
            self.assertEqual(exactly(call(firing, keymap, state, *place)), expected)

    def test_drawn(self):
        drawn = random.Random(9)
        seen = {"row": 0, "never": 0, "far": 0}
        for keymap, state in draw_many(drawn, 150):
            numbers = plain_numbers(keymap, state)
            for place in bindings(keymap):
                keys = keymap[3][place[0]][place[1]][0]
                wins = [numbers[here] for here in numbers if winner(keymap, here, keys) == place]
                seen["row" if wins else "never"] += 1
                if wins:
                    self.fires(keymap, state, place, min(wins) + len(keys))
                    seen["far"] += min(wins) > 0
                else:
                    self.never(keymap, state, place)
        self.assertGreater(min(seen.values()), 15, seen)


class NeverTest(FiringCase):

    def judged(self, keymap, state, place, thing, expected):
        with self.subTest(state=state, place=place, thing=repr(thing)[:80]):
            self.assertIs(call(is_never, keymap, state, *place, thing), expected)

    # (2, 2) of HIDDEN is never fired from a on.
    START = (True, False)
    RIGHT = {(True, False): ("stronger", 0, 0), (True, True): ("stronger", 0, 0)}

    def test_just_the_reachable_states(self):
        self.judged(HIDDEN, self.START, (2, 2), self.RIGHT, True)
        self.judged(HIDDEN, (True, True), (2, 2), self.RIGHT, True)
        both = {(True, False): ("condition", "b"), (True, True): ("stronger", 0, 0)}
        self.judged(HIDDEN, self.START, (2, 0), both, True)
        for one, other in [("a", "a"), ("b", "a")]:
            thing = {(True, False): ("condition", one), (True, True): ("condition", other)}
            self.judged(HIDDEN, self.START, (2, 1), thing, True)

    def test_more_of_them_and_all(self):
        keymap = (("a", "b"), (), {"go": {}, "both": {"a": True, "b": True}},
                  ((("j", {"b": False}, "go"), ("j", {"a": True, "b": False}, "go"), ("k", {"a": True}, "both")),),
                  WAIT)
        few = {(False, False): ("condition", "a")}
        more = few | {(False, True): ("condition", "b")}
        every = more | {(True, False): ("stronger", 0, 0), (True, True): ("condition", "b")}
        for thing in [few, more, every, few | {(True, True): ("condition", "b")}]:
            self.judged(keymap, OFF, (0, 1), thing, True)
        self.judged(keymap, OFF, (0, 1), dict(reversed(every.items())), True)
        # From a alone, k leads to both.
        self.judged(keymap, OFF, (0, 1), few | {(True, False): ("stronger", 0, 0)}, False)

    def test_one_left_out(self):
        for here in self.RIGHT:
            thing = dict(self.RIGHT)
            del thing[here]
            self.judged(HIDDEN, self.START, (2, 2), thing, False)
        self.judged(HIDDEN, self.START, (2, 2), {}, False)

    def test_one_wrong(self):
        for here in self.RIGHT:
            for wrong in [("condition", "a"), ("condition", "b"), ("stronger", 2, 2), ("stronger", 0, 1),
                          ("stronger", 1, 0), ("stronger", 2, 0), ("stronger", 3, 0), ("stronger", -4, 0),
                          ("stronger", 0, -1), ("stronger", False, 0), ("stronger", 0, False), ("stronger", "0", 0),
                          ("stronger", None, None), ("stronger", (0, 0)), ("stronger", 0), ("stronger", 0, 0, 0),
                          ["stronger", 0, 0], ("stronger",), (), ("", 0, 0), ("condition", 0, 0), (0, 0), None,
                          ("Stronger", 0, 0), "stronger", 0, True, {}, [], ((0, 0),), ("stronger", [0], 0)]:
                self.judged(HIDDEN, self.START, (2, 2), {**self.RIGHT, here: wrong}, False)

    def test_wrong_flags(self):
        right = {(True, False): ("condition", "a"), (True, True): ("condition", "a")}
        self.judged(HIDDEN, self.START, (2, 1), right, True)
        for wrong in [("condition", "b"), ("condition", "c"), ("condition", ""), ("condition", None),
                      ("condition", ["a"]), ("condition", ("a",)), ("condition", 0), ("condition", True),
                      ("condition", {}), ["condition", "a"], ("condition",), ("condition", "a", "a"),
                      ("stronger", "a"), ("cond", "a"), ("a", "condition"), "a", ("condition", "aa")]:
            # b agrees with the condition here: it is no reason.
            self.judged(HIDDEN, self.START, (2, 1), {**right, (True, True): wrong}, False)

    def test_a_flag_that_the_condition_does_not_name(self):
        keymap = (("a", "b"), (), {"go": {}}, ((("j", {"a": True}, "go"),),), WAIT)
        self.judged(keymap, OFF, (0, 0), {OFF: ("condition", "a")}, True)
        self.judged(keymap, OFF, (0, 0), {OFF: ("condition", "b")}, False)

    def test_a_stronger_one_that_is_not_the_winner(self):
        keymap = (("a",), ("a",), {"go": {}},
                  ((("j", {"a": True}, "go"), ("j", {}, "go")),
                   (("k", {}, "go"), ("j", {}, "go"), ("j", {}, "go"))), WAIT)
        right = {(False,): ("stronger", 0, 1), (True,): ("stronger", 0, 0)}
        self.judged(keymap, (False,), (1, 1), right, True)
        self.judged(keymap, (False,), (1, 2), right, True)
        for here, wrong in [((False,), (0, 0)), ((True,), (0, 1)), ((False,), (1, 0)), ((False,), (1, 1)),
                            ((True,), (1, 2))]:
            for place in [(1, 1), (1, 2)]:
                self.judged(keymap, (False,), place, {**right, here: ("stronger", *wrong)}, False)

    def test_one_that_stands_behind(self):
        keymap = (("a",), (), {"go": {}}, ((("j", {"a": True}, "go"), ("j", {}, "go")), (("j", {}, "go"),)), WAIT)
        self.judged(keymap, (False,), (0, 0), {(False,): ("condition", "a")}, True)
        # It wins here, but it does not come before the binding.
        self.judged(keymap, (False,), (0, 0), {(False,): ("stronger", 0, 1)}, False)
        self.judged(keymap, (True,), (1, 0), {(True,): ("stronger", 0, 0)}, True)

    def test_both_kinds_of_reason_in_one_state(self):
        keymap = (("a",), (), {"go": {}}, ((("j", {}, "go"), ("j", {"a": True}, "go")),), WAIT)
        self.judged(keymap, (False,), (0, 1), {(False,): ("stronger", 0, 0)}, True)
        self.judged(keymap, (False,), (0, 1), {(False,): ("condition", "a")}, True)

    def test_a_winner_without_a_command(self):
        keymap = ((), (), {"go": {}}, ((("j", {}, None),), (("j", {}, "go"),)), WAIT)
        self.judged(keymap, (), (1, 0), {(): ("stronger", 0, 0)}, True)

    def test_the_binding_itself_is_no_reason(self):
        self.judged(PLAIN, (), (0, 1), {(): ("stronger", 0, 1)}, False)
        self.judged(PLAIN, (), (0, 1), {(): ("stronger", 0, 0)}, False)
        self.judged(PLAIN, (), (0, 0), {(): ("condition", "a")}, False)

    def test_states_that_are_not_closed(self):
        keymap = (("a", "b"), ("b",), {"up": {"a": True}}, ((("j", {}, "up"), ("j", {}, "up")),), WAIT)
        every = {here: ("stronger", 0, 0) for here in all_states(keymap)}
        self.judged(keymap, OFF, (0, 1), every, True)
        for here in every:
            self.judged(keymap, OFF, (0, 1), {one: every[one] for one in every if one != here}, False)
        upper = {here: every[here] for here in every if here[0]}
        self.judged(keymap, OFF, (0, 1), upper, False)
        self.judged(keymap, (True, False), (0, 1), upper, True)

    def test_other_keys_of_the_dict(self):
        for odd in [None, 0, True, "a", "", (), (True,), (True, True, True), (1, 1, 1), ("a", "b"), (None, True),
                    ((), ())]:
            self.judged(HIDDEN, self.START, (2, 2), {**self.RIGHT, odd: ("stronger", 0, 0)}, False)
            self.judged(HIDDEN, self.START, (2, 2), {odd: ("stronger", 0, 0), **self.RIGHT}, False)
        # Equal to the right states, but of integers.
        self.judged(HIDDEN, self.START, (2, 2), {(1, 0): ("stronger", 0, 0), (1, 1): ("stronger", 0, 0)}, False)
        self.judged(HIDDEN, self.START, (2, 2), {(1, False): ("stronger", 0, 0), (True, 1): ("stronger", 0, 0)}, False)

    def test_strange_things(self):
        for thing in [*STRANGE, list(self.RIGHT), tuple(self.RIGHT.items()), ("never", self.RIGHT), [self.RIGHT]]:
            self.judged(HIDDEN, self.START, (2, 2), thing, False)
        for thing in STRANGE:
            self.judged(HIDDEN, self.START, (2, 2), {**self.RIGHT, (True, True): thing}, False)

    def test_drawn(self):
        drawn = random.Random(91)
        found = {True: 0, False: 0}
        for keymap, state in draw_many(drawn, 150):
            every = all_reasons(keymap)
            for place in bindings(keymap):
                thing = {}
                for here in all_states(keymap):
                    right = [one for one in every if right_reason(keymap, here, *place, one)]
                    if right and drawn.random() < 0.9:
                        thing[here] = drawn.choice(every if drawn.random() < 0.05 else right)
                expected = state in thing and all(
                    behind in thing for here in thing for _, behind in plain_edges(keymap, here)) and all(
                    right_reason(keymap, here, *place, thing[here]) for here in thing)
                found[expected] += 1
                self.judged(keymap, state, place, thing, expected)
        self.assertGreater(min(found.values()), 40, found)


class WrongTest(unittest.TestCase):

    def refused(self, keymap, state, layer, index):
        for function, rest in [(firing, ()), (is_never, ({},)), (is_never, (None,))]:
            with self.subTest(function=function.__name__, layer=repr(layer)[:40], index=repr(index)[:40]):
                with self.assertRaises(ValueError) as caught:
                    call(function, keymap, state, layer, index, *rest)
                self.assertIs(type(caught.exception), NoBinding)
                self.assertEqual(exactly(caught.exception.layer), exactly(layer))
                self.assertEqual(exactly(caught.exception.index), exactly(index))

    def test_out_of_range(self):
        for layer, index in [(3, 0), (-1, 0), (-3, 0), (1, 0), (1, -1), (0, 1), (0, -1), (2, 3), (2, -1), (2, -3),
                             (-1, -1), (10 ** 20 - 1, 0), (2, 10 ** 20 - 1), (-1, 10 ** 19)]:
            self.refused(HIDDEN, OFF, layer, index)

    def test_no_integers(self):
        for odd in [True, False, "0", "a", "", None, [0], (0,), {}, [], ()]:
            self.refused(PLAIN, (), odd, 0)
            self.refused(PLAIN, (), 0, odd)
            self.refused(PLAIN, (), odd, odd)
            self.refused(PLAIN, (), 1, odd)

    def test_strange_things(self):
        for thing in STRANGE:
            if exactly(thing) not in ["0", "1"]:
                self.refused(PLAIN, (), thing, 0)
                self.refused(PLAIN, (), 0, thing)

    def test_a_binding_without_a_command(self):
        self.refused(HIDDEN, OFF, 0, 0)
        self.refused(STAIRS, OFF, 0, 1)
        self.refused(STAIRS, OFF, 0, 2)

    def test_the_earliest_error(self):
        for function, rest in [(firing, ()), (is_never, ({},)), (is_never, (None,))]:
            for layer, index in [(0, 0), (9, 0), (None, None)]:
                for keymap in [None, PLAIN[:4], with_part(PLAIN, 4, True)]:
                    for state in [(), None]:
                        with self.assertRaises(NoMap):
                            call(function, keymap, state, layer, index, *rest)
                for state in [None, (), (0, 0), (True,)]:
                    with self.assertRaises(NoState):
                        call(function, KEYMAP, state, layer, index, *rest)


if __name__ == "__main__":
    unittest.main()
