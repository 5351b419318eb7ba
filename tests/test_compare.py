"""[10] Whether two keymaps behave alike: states in which they agree, or a shortest row that differs."""

import random
import unittest

from keywait.compare import compare, is_agreement
from keywait.errors import NoMap, NoState, Unlike
from keywait.maps import bound
from keywait.reach import is_closed, reachable
from keywait.reading import is_row, read
from tests.pairs import all_rows, draw_pairs, plain_least
from tests.samples import (
    KEYMAP, PLAIN, STATES, STRANGE, WAIT, all_states, binding_just, call, draw_many, draw_state, exactly, keys_in,
    with_part,
)

# l leads to a, and kk from there to b; c is changed from outside only.
STAIRS = (
    ("a", "b", "c"), ("c",), {"up": {"a": True}, "top": {"b": True}, "go": {}, "home": {}},
    ((("l", {}, "up"), ("kk", {"a": True}, "top"), ("j", {}, "go")),),
    WAIT,
)
START = (False, False, False)


def with_front(keymap, *bindings):
    """The keymap with a layer of these bindings in front of the others."""
    return with_part(keymap, 3, (bindings, *keymap[3]))


class CompareCase(unittest.TestCase):

    def same(self, one, other, state):
        """compare says "same", with the reachable states, ascending, in either order of the keymaps."""
        expected = ("same", sorted(reachable(one, state)))
        for first, second in [(one, other), (other, one)]:
            self.assertEqual(exactly(call(compare, first, second, state)), exactly(expected))
        self.assertIs(call(is_agreement, one, other, state, expected[1]), True)

    def differs(self, one, other, state, number):
        """compare tells a row of so many keys whose events differ, in either order of the keymaps."""
        for first, second in [(one, other), (other, one)]:
            told = call(compare, first, second, state)
            self.assertEqual((type(told), len(told), told[0]), (tuple, 2, "differ"))
            row = told[1]
            self.assertIs(call(is_row, one, row), True)
            self.assertEqual(keys_in(row), number)
            self.assertNotEqual(read(one, state, row)[0], read(other, state, row)[0])
            self.assertIs(call(is_agreement, first, second, state, sorted(reachable(first, state))), False)
        return row


class SameTest(CompareCase):

    def test_a_keymap_and_itself(self):
        self.same(PLAIN, PLAIN, ())
        self.same(with_part(PLAIN, 3, ((),)), with_part(PLAIN, 3, ((), ())), ())
        for state in STATES:
            self.same(KEYMAP, KEYMAP, state)
        for state in all_states(STAIRS):
            self.same(STAIRS, STAIRS, state)

    def test_a_binding_more_that_an_equal_one_hides(self):
        self.same(PLAIN, with_part(PLAIN, 3, (PLAIN[3][0], (("j", {}, "leave"),))), ())
        self.same(PLAIN, with_part(PLAIN, 3, (PLAIN[3][0] + PLAIN[3][0],)), ())
        for state in STATES:
            self.same(KEYMAP, with_part(KEYMAP, 3, KEYMAP[3] + ((("k", {}, "off"),),)), state)

    def test_another_order_that_changes_nothing(self):
        self.same(PLAIN, with_part(PLAIN, 3, (PLAIN[3][0][::-1],)), ())
        self.same(PLAIN, with_part(PLAIN, 3, ((PLAIN[3][0][1],), (), (PLAIN[3][0][0],))), ())
        for state in all_states(STAIRS):
            self.same(STAIRS, with_part(STAIRS, 3, (STAIRS[3][0][::-1],)), state)

    def test_a_difference_where_nothing_leads(self):
        # b is reached from a only, and nothing turns it off again.
        other = with_front(STAIRS, ("j", {"a": False, "b": True}, "home"))
        self.same(STAIRS, other, START)
        self.same(STAIRS, other, (True, False, False))
        self.same(STAIRS, other, (True, True, True))
        self.differs(STAIRS, other, (False, True, False), 1)

    def test_states_differ_that_are_reached(self):
        keymap = (("a", "b"), (), {"up": {"a": True}}, ((("j", {}, "up"),),), WAIT)
        for state, states in [((False, False), [(False, False), (True, False)]), ((True, True), [(True, True)])]:
            self.same(keymap, keymap, state)
            self.assertEqual(compare(keymap, keymap, state)[1], states)

    def test_another_wait(self):
        for state, keymap in [((), binding_just("j", "k")), ((), binding_just()), (START, (
                ("a", "b", "c"), ("c",), {"go": {}}, ((("j", {}, "go"), ("jk", {"a": True}, "go"), ("jj", {}, None)),),
                WAIT))]:
            for wait in [1, 4, 6, 1000]:
                self.same(keymap, with_part(keymap, 4, wait), state)

    def test_what_is_returned_is_new(self):
        for _ in range(2):
            told = call(compare, STAIRS, STAIRS, START)[1]
            self.assertEqual(len(told), 6)
            told.clear()
            row = call(compare, STAIRS, with_front(STAIRS, ("l", {}, "go")), START)[1]
            self.assertEqual(len(row), 1)
            row.clear()


class DiffersTest(CompareCase):

    def test_a_binding_more_or_another_command(self):
        for bindings, number in [((), 1), ((("j", {}, "down"),), 2), ((("jk", {}, "leave"),), 1),
                                 ((("j", {}, "leave"), ("jk", {}, "leave")), 1),
                                 ((("j", {}, "down"), ("jk", {}, "down")), 2),
                                 ((("j", {}, None), *PLAIN[3][0]), 1), ((("jk", {}, None), *PLAIN[3][0]), 2),
                                 ((*PLAIN[3][0], ("jkj", {}, "down")), 3), ((*PLAIN[3][0], ("jklm", {}, "down")), 4)]:
            with self.subTest(bindings=bindings):
                self.differs(PLAIN, with_part(PLAIN, 3, (bindings,)), (), number)

    def test_a_command_with_the_same_effect(self):
        self.differs(STAIRS, with_front(STAIRS, ("j", {}, "home")), START, 1)

    def test_only_behind_a_change_from_outside(self):
        row = self.differs(STAIRS, with_front(STAIRS, ("j", {"c": True}, "home")), START, 1)
        self.assertEqual([entry[:-1] for entry in row], [("set", "c", True), ("key", "j")])
        self.differs(STAIRS, with_front(STAIRS, ("jx", {"c": True}, "home")), START, 2)
        self.differs(STAIRS, with_front(STAIRS, ("jx", {"c": False}, "home")), (True, True, True), 2)

    def test_only_behind_commands(self):
        for condition, number in [({"a": True}, 2), ({"b": True}, 4), ({"b": True, "c": True}, 4), ({}, 1)]:
            self.differs(STAIRS, with_front(STAIRS, ("j", condition, "home")), START, number)
            self.differs(STAIRS, with_front(STAIRS, ("xyz", condition, "home")), START, number + 2)
        self.differs(STAIRS, with_front(STAIRS, ("j", {"b": True}, "home")), (True, False, True), 3)

    def test_another_wait(self):
        for wait in [1, 4, 6, 1000]:
            for sequences, number in [(["jk"], 2), (["j", "jkl"], 3), (["jklm", "x", "xyz"], 3), (["jklm"], 4)]:
                keymap = binding_just(*sequences)
                self.differs(keymap, with_part(keymap, 4, wait), (), number)
            self.differs(STAIRS, with_part(STAIRS, 4, wait), START, 3)
            self.differs(STAIRS, with_part(STAIRS, 4, wait), (True, False, False), 2)

    def test_another_wait_and_another_command(self):
        for wait in [2, 9]:
            later = with_part(STAIRS, 4, wait)
            # kk is torn behind one key; before it, with as many keys and behind it another command differs.
            for binding, number in [(("j", {}, "home"), 1), (("xyz", {}, "home"), 3), (("wxyz", {}, "home"), 3),
                                    (("j", {"a": True}, "home"), 2), (("j", {"b": True}, "home"), 3),
                                    (("xy", {"c": True}, "home"), 2), (("kk", {}, "go"), 2), (("kk", {}, None), 3)]:
                with self.subTest(wait=wait, binding=binding):
                    self.differs(STAIRS, with_front(later, binding), START, number)

    def test_another_wait_and_a_sequence_that_one_keymap_alone_has(self):
        # With the sequence on the side of the shorter wait, a long gap would hide it.
        for wait in [1, 9]:
            self.differs(with_part(binding_just("j"), 4, WAIT),
                         with_part(binding_just("j"), 3, ((("j", {}, "j"), ("jk", {}, "j")),))[:4] + (wait,), (), 2)

    def test_a_state_that_both_reach_in_different_ways(self):
        keymap = (("a",), (), {"up": {"a": True}, "go": {}}, ((("jj", {}, "up"), ("k", {"a": True}, "go")),), WAIT)
        other = with_part(keymap, 3, ((("jjj", {}, "up"),),))
        self.differs(keymap, other, (False,), 2)

    def test_drawn(self):
        drawn = random.Random(10)
        seen = {}
        for one, other, state in draw_pairs(drawn, 800):
            number = plain_least(one, other, state)
            seen[number] = seen.get(number, 0) + 1
            if number is None:
                self.same(one, other, state)
            else:
                self.differs(one, other, state, number)
        self.assertTrue(all(seen[number] > 10 for number in [None, 1, 2, 3]), seen)

    def test_no_shorter_row_differs(self):
        drawn = random.Random(101)
        seen = {}
        for one, other, state in draw_pairs(drawn, 150):
            told = call(compare, one, other, state)
            least = keys_in(told[1]) if told[0] == "differ" else 4
            gaps = sorted({0, min(one[4], other[4]), max(one[4], other[4]), max(one[4], other[4]) + 1})
            most = min(least - 1, 2 if one[1] else 3)
            for row in all_rows(one, "jklx", gaps, most):
                self.assertEqual(read(one, state, row)[0], read(other, state, row)[0])
            seen[most] = seen.get(most, 0) + 1
        self.assertGreater(min(seen.values()), 5, seen)


class AgreementTest(CompareCase):

    def judged(self, one, other, state, thing, expected):
        with self.subTest(state=state, thing=repr(thing)[:80]):
            self.assertIs(call(is_agreement, one, other, state, thing), expected)

    # From b on, nothing leads to a.
    KEYS = (("a", "b"), (), {"up": {"b": True}, "go": {}}, ((("j", {}, "up"), ("k", {"a": True}, "go")),), WAIT)
    ALIKE = with_part(KEYS, 3, ((("j", {}, "up"),), (("k", {"a": True}, "go"), ("k", {"a": True}, "up"))))
    FALSE, SECOND, FIRST, BOTH = STATES

    def test_right_lists(self):
        for thing in [[self.FALSE, self.SECOND], STATES, [self.FALSE, self.SECOND, self.BOTH]]:
            self.judged(self.KEYS, self.ALIKE, self.FALSE, thing, True)
            self.judged(self.ALIKE, self.KEYS, self.FALSE, thing, True)
        self.judged(self.KEYS, self.ALIKE, self.BOTH, [self.BOTH], True)
        self.judged(PLAIN, PLAIN, (), [()], True)

    def test_wrong_lists(self):
        for thing in [[], [self.FALSE], [self.SECOND], [self.SECOND, self.FALSE],
                      [self.FALSE, self.FALSE, self.SECOND], [self.FALSE, self.SECOND, self.SECOND],
                      [self.FALSE, self.SECOND, self.FIRST], (self.FALSE, self.SECOND), [self.FALSE, (False,)],
                      [self.FALSE, (False, 1)], [(0, 0), (0, 1)], [(False, False, False)], [self.FALSE, None],
                      [list(self.FALSE), list(self.SECOND)], {self.FALSE: 0, self.SECOND: 0},
                      ("same", [self.FALSE, self.SECOND]), [self.FALSE, self.SECOND, True],
                      [self.FALSE, self.SECOND, [True]], [(), self.FALSE, self.SECOND]]:
            self.judged(self.KEYS, self.ALIKE, self.FALSE, thing, False)

    def test_strange_things(self):
        for thing in STRANGE:
            self.judged(self.KEYS, self.ALIKE, self.FALSE, thing, False)
            self.judged(PLAIN, PLAIN, (), thing, exactly(thing) == exactly([()]))

    def test_a_sequence_that_is_bound_differently_in_one_of_the_states(self):
        other = with_front(self.KEYS, ("k", {"a": True, "b": False}, "up"))
        self.judged(self.KEYS, other, self.FALSE, [self.FALSE, self.SECOND], True)
        self.judged(self.KEYS, other, self.FALSE, [self.FALSE, self.SECOND, self.BOTH], True)
        self.judged(self.KEYS, other, self.FALSE, STATES, False)
        for binding in [("k", {"b": True}, "go"), ("jk", {"b": True}, "go"), ("j", {"b": True}, None)]:
            self.judged(self.KEYS, with_front(self.KEYS, binding), self.FALSE, [self.FALSE, self.SECOND], False)

    def test_waits(self):
        for wait in [1, 4, 6, 1000]:
            self.judged(self.KEYS, with_part(self.ALIKE, 4, wait), self.FALSE, STATES, True)
            longer = with_front(self.KEYS, ("jk", {"a": True, "b": False}, "go"))
            self.judged(longer, longer, self.FALSE, STATES, True)
            self.judged(longer, with_part(longer, 4, wait), self.FALSE, STATES, False)
            self.judged(longer, with_part(longer, 4, wait), self.FALSE, [self.FALSE, self.SECOND, self.BOTH], True)
            self.judged(PLAIN, with_part(PLAIN, 4, wait), (), [()], False)

    def test_drawn(self):
        drawn = random.Random(102)
        seen = {True: 0, False: 0}
        for one, other, state in draw_pairs(drawn, 500):
            states = [here for here in all_states(one) if drawn.random() < 0.9]
            for thing in [states, all_states(one), sorted(reachable(one, state))]:
                expected = is_closed(one, state, thing) and all(
                    bound(one, here) == bound(other, here) and (
                        one[4] == other[4] or all(len(keys) == 1 for keys in bound(one, here)))
                    for here in thing)
                seen[expected] += 1
                self.judged(one, other, state, thing, expected)
        self.assertGreater(min(seen.values()), 100, seen)


class WrongTest(unittest.TestCase):

    def refused(self, kind, one, other, state):
        for function, rest in [(compare, ()), (is_agreement, ([],)), (is_agreement, (None,))]:
            with self.subTest(function=function.__name__, kind=kind.__name__):
                with self.assertRaises(ValueError) as caught:
                    call(function, one, other, state, *rest)
                self.assertIs(type(caught.exception), kind)

    def test_unlike(self):
        bare = (("a", "b"), ("a",), {"go": {}, "up": {"b": True}}, ((),), WAIT)
        empty = with_part(bare, 2, {"go": {}})
        parts = [(0, ("a", "b", "c")), (1, ()), (1, ("b",)), (1, ("a", "b")), (2, {**bare[2], "more": {}}),
                 (2, {"go": {}}), (2, {"go": {}, "on": {"b": True}}), (2, {**bare[2], "go": {"a": True}}),
                 (2, {**bare[2], "up": {"b": False}}), (2, {**bare[2], "up": {}}),
                 (2, {**bare[2], "up": {"b": True, "a": False}})]
        pairs = [(bare, with_part(bare, place, part)) for place, part in parts]
        pairs += [(empty, with_part(empty, 0, flags)) for flags in [("a",), ("a", "c")]]
        for one, other in pairs + [(KEYMAP, PLAIN)]:
            for state in [STATES[0], (), None, (0, 0)]:
                self.refused(Unlike, one, other, state)
                self.refused(Unlike, other, one, state)
                self.refused(Unlike, one, with_part(other, 4, 9), state)

    def test_another_wait_or_other_layers_are_no_reason(self):
        for other in [with_part(KEYMAP, 4, 1000), with_part(KEYMAP, 3, ((),)), with_part(KEYMAP, 3, ((), (), (), ()))]:
            self.assertIn(call(compare, KEYMAP, other, STATES[0])[0], ["same", "differ"])
            self.assertIs(call(is_agreement, KEYMAP, other, STATES[0], []), False)

    def test_the_earliest_error(self):
        wrong = with_part(KEYMAP, 4, True)
        for state in [STATES[0], (), (0, 0), None]:
            for other in [KEYMAP, wrong, PLAIN, None]:
                self.refused(NoMap, wrong, other, state)
            self.refused(NoMap, KEYMAP, wrong, state)
            self.refused(NoMap, KEYMAP, None, state)
            self.refused(Unlike, KEYMAP, PLAIN, state)
        for state in [(), (0, 0), None, [False, False], (True,), (False, False, False)]:
            self.refused(NoState, KEYMAP, with_part(KEYMAP, 4, 9), state)

    def test_strange_things(self):
        for thing in STRANGE:
            self.refused(NoMap, thing, KEYMAP, STATES[0])
            self.refused(NoMap, KEYMAP, thing, STATES[0])
            self.refused(NoState, KEYMAP, KEYMAP, thing)

    def test_drawn_ones_raise_nothing(self):
        drawn = random.Random(103)
        for keymap, state in draw_many(drawn, 50):
            self.assertEqual(call(compare, keymap, keymap, state)[0], "same")
            self.assertIs(call(is_agreement, keymap, keymap, draw_state(drawn, keymap), all_states(keymap)), True)


if __name__ == "__main__":
    unittest.main()
