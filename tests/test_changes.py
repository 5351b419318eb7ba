"""[11] What an edit changes, and which bindings can be dropped."""

import random
import unittest

from keywait.changes import changes, spare
from keywait.compare import compare
from keywait.errors import NoMap, NoState, Unlike
from keywait.maps import bound, is_map
from tests.pairs import draw_edit, draw_pairs, plain_least, without
from tests.samples import (
    KEYMAP, PLAIN, STATES, STRANGE, WAIT, all_states, binding_just, call, draw_many, exactly, plain_numbers,
    with_part,
)

NOTHING = ([], [], [], [], [])
FALSE, TRUE = (False,), (True,)


def one_flag(*bindings, outside=()):
    """A keymap with the flag a and these bindings."""
    commands = {"on": {"a": True}, "off": {"a": False}, "go": {}, "stay": {}}
    return (("a",), outside, commands, (bindings,), WAIT)


def plain_changes(before, after, state):
    """What [11] says of changes, in another way than the program."""
    old, new = set(plain_numbers(before, state)), set(plain_numbers(after, state))
    rebound, held, cut = set(), set(), set()
    for here in old & new:
        first, second = bound(before, here), bound(after, here)
        for keys in first.keys() | second.keys():
            if first.get(keys) != second.get(keys):
                rebound.add((here, keys, first.get(keys), second.get(keys)))
            elif len(keys) > 1 and before[4] != after[4]:
                cut.add((here, keys))
        for keys in first.keys() | second.keys():
            for held_keys in [keys[:1], keys[:2], keys[:3]]:
                is_old, is_new = [any(longer.startswith(held_keys) and longer != held_keys for longer in table)
                                  for table in (first, second)]
                if is_old != is_new:
                    held.add((here, held_keys, is_new))
    return (sorted(rebound, key=lambda row: row[:2]), sorted(new - old), sorted(old - new), sorted(held), sorted(cut))


class ChangesTest(unittest.TestCase):

    def told(self, before, after, state, expected):
        """changes tells just this, and the other way round with new and old exchanged."""
        with self.subTest(state=state):
            self.assertEqual(exactly(call(changes, before, after, state)), exactly(expected))
            self.assertEqual(exactly(plain_changes(before, after, state)), exactly(expected))
            rebound, gained, lost, held, cut = expected
            turned = ([(here, keys, new, old) for here, keys, old, new in rebound], lost, gained,
                      [(here, keys, not new) for here, keys, new in held], cut)
            self.assertEqual(exactly(call(changes, after, before, state)), exactly(turned))
            self.assertEqual(call(compare, before, after, state)[0] == "same", expected == NOTHING)

    def test_nothing(self):
        self.told(PLAIN, PLAIN, (), NOTHING)
        self.told(PLAIN, with_part(PLAIN, 3, (PLAIN[3][0][::-1], PLAIN[3][0])), (), NOTHING)
        self.told(with_part(PLAIN, 3, ((),)), with_part(PLAIN, 3, ((), ())), (), NOTHING)
        for state in STATES:
            self.told(KEYMAP, KEYMAP, state, NOTHING)

    def test_another_command(self):
        after = with_part(PLAIN, 3, ((("j", {}, "leave"), ("jk", {}, "leave")),))
        self.told(PLAIN, after, (), ([((), "j", "down", "leave")], [], [], [], []))
        after = with_part(PLAIN, 3, ((("jk", {}, "down"), ("j", {}, "leave")),))
        self.told(PLAIN, after, (), ([((), "j", "down", "leave"), ((), "jk", "leave", "down")], [], [], [], []))

    def test_a_binding_more(self):
        before = with_part(PLAIN, 3, ((("j", {}, "down"),),))
        self.told(before, PLAIN, (), ([((), "jk", None, "leave")], [], [], [((), "j", True)], []))
        after = with_part(PLAIN, 3, (PLAIN[3][0] + (("x", {}, "down"),),))
        self.told(PLAIN, after, (), ([((), "x", None, "down")], [], [], [], []))

    def test_a_binding_less(self):
        after = with_part(PLAIN, 3, ((("jk", {}, "leave"),),))
        self.told(PLAIN, after, (), ([((), "j", "down", None)], [], [], [], []))
        self.told(PLAIN, with_part(PLAIN, 3, ((),)), (),
                  ([((), "j", "down", None), ((), "jk", "leave", None)], [], [], [((), "j", False)], []))

    def test_one_unbound_by_none(self):
        after = with_part(PLAIN, 3, ((("jk", {}, None),), *PLAIN[3]))
        self.told(PLAIN, after, (), ([((), "jk", "leave", None)], [], [], [((), "j", False)], []))
        after = with_part(PLAIN, 3, ((("jkl", {}, None), ("x", {}, None)), *PLAIN[3]))
        self.told(PLAIN, after, (), NOTHING)

    def test_held_prefixes(self):
        after = binding_just("jklm", "xy")
        self.told(with_part(after, 3, ((),)), after, (), (
            [((), "jklm", None, "jklm"), ((), "xy", None, "xy")], [], [],
            [((), "j", True), ((), "jk", True), ((), "jkl", True), ((), "x", True)], []))
        before = with_part(after, 3, ((("jklm", {}, "jklm"), ("jx", {}, "xy")),))
        later = with_part(after, 3, ((("jx", {}, "xy"), ("jxy", {}, "xy")),))
        self.told(before, later, (), (
            [((), "jklm", "jklm", None), ((), "jxy", None, "xy")], [], [],
            [((), "jk", False), ((), "jkl", False), ((), "jx", True)], []))

    def test_sequences_that_differ_may_hold_the_same(self):
        commands = binding_just("jk", "jl")
        self.told(with_part(commands, 3, ((("jk", {}, "jk"),),)), with_part(commands, 3, ((("jl", {}, "jk"),),)), (),
                  ([((), "jk", "jk", None), ((), "jl", None, "jk")], [], [], [], []))

    def test_states_that_one_of_both_reaches(self):
        before, after = one_flag(("j", {}, "go")), one_flag(("j", {}, "go"), ("k", {}, "on"), ("l", {"a": True}, "go"))
        self.told(before, after, FALSE, ([(FALSE, "k", None, "on")], [TRUE], [], [], []))
        # In a state that both reach, all that differs is told.
        self.told(before, after, TRUE, ([(TRUE, "k", None, "on"), (TRUE, "l", None, "go")], [], [], [], []))
        before = one_flag(("j", {"a": False}, "on"), ("j", {}, "go"))
        after = one_flag(("j", {"a": True}, "off"), ("j", {}, "go"))
        self.told(before, after, FALSE, ([(FALSE, "j", "on", "go")], [], [TRUE], [], []))
        self.told(before, after, TRUE, ([(TRUE, "j", "go", "off")], [FALSE], [], [], []))

    def test_all_states_in_which_something_differs(self):
        before = one_flag(("j", {}, "go"), outside=("a",))
        after = one_flag(("j", {}, "stay"), ("kk", {"a": True}, "on"), outside=("a",))
        for state in [FALSE, TRUE]:
            self.told(before, after, state, (
                [(FALSE, "j", "go", "stay"), (TRUE, "j", "go", "stay"), (TRUE, "kk", None, "on")], [], [],
                [(TRUE, "k", True)], []))

    def test_another_wait(self):
        for wait in [1, 4, 6, 1000]:
            self.told(PLAIN, with_part(PLAIN, 4, wait), (), ([], [], [], [], [((), "jk")]))
            keymap = binding_just("j", "jk", "jklm", "x", "a")
            self.told(keymap, with_part(keymap, 4, wait), (), ([], [], [], [], [((), "jk"), ((), "jklm")]))
            for sequences in [(), ("j",), ("j", "x", "a")]:
                self.told(binding_just(*sequences), with_part(binding_just(*sequences), 4, wait), (), NOTHING)
            keymap = one_flag(("jk", {}, "go"), ("xyz", {"a": True}, "on"), ("l", {}, "off"), outside=("a",))
            self.told(keymap, with_part(keymap, 4, wait), TRUE, (
                [], [], [], [], [(FALSE, "jk"), (TRUE, "jk"), (TRUE, "xyz")]))

    def test_another_wait_and_another_command(self):
        for wait in [1, 6]:
            after = with_part(with_part(PLAIN, 3, ((("jk", {}, "down"), ("j", {}, "leave")),)), 4, wait)
            self.told(PLAIN, after, (),
                      ([((), "j", "down", "leave"), ((), "jk", "leave", "down")], [], [], [], []))
            before = one_flag(("jk", {"a": False}, "go"), ("jk", {}, "stay"), ("l", {}, "on"))
            after = with_part(one_flag(("jk", {}, "stay"), ("l", {}, "on")), 4, wait)
            self.told(before, after, FALSE, ([(FALSE, "jk", "go", "stay")], [], [], [], [(TRUE, "jk")]))

    def test_what_is_returned_is_new(self):
        before = one_flag(("jk", {}, "go"), ("l", {}, "on"))
        after = with_part(one_flag(("jk", {}, "go"), ("xy", {}, "go")), 4, 9)
        expected = exactly(changes(before, after, FALSE))
        for _ in range(3):
            told = call(changes, before, after, FALSE)
            self.assertEqual(exactly(told), expected)
            self.assertEqual(len({id(one) for one in told}), 5)
            for one in told:
                one.append(None)
        for one in call(changes, PLAIN, PLAIN, ()):
            self.assertEqual(one, [])
            one.append(None)
        self.assertEqual(call(changes, PLAIN, PLAIN, ()), NOTHING)

    def test_drawn(self):
        drawn = random.Random(11)
        seen = [0] * 6
        for before, after, state in draw_pairs(drawn, 1500):
            if drawn.random() < 0.8:
                # Without changes from outside, fewer states are reached.
                before, after = with_part(before, 1, ()), with_part(after, 1, ())
            expected = plain_changes(before, after, state)
            told = call(changes, before, after, state)
            self.assertEqual(exactly(told), exactly(expected))
            same = call(compare, before, after, state)[0] == "same"
            self.assertEqual(same, all(one == [] for one in told))
            for place, one in enumerate([*told, same]):
                seen[place] += bool(one)
        self.assertGreater(min(seen), 10, seen)

    def test_rows_of_edits_one_behind_the_other(self):
        drawn = random.Random(111)
        for keymap, state in draw_many(drawn, 60):
            for _ in range(6):
                edited = draw_edit(drawn, keymap)
                told = call(changes, keymap, edited, state)
                self.assertEqual(exactly(told), exactly(plain_changes(keymap, edited, state)))
                for one in told:
                    self.assertEqual([row[:2] if one is told[0] else row for row in one],
                                     sorted([row[:2] if one is told[0] else row for row in one]))
                keymap = edited


class SpareTest(unittest.TestCase):

    def spared(self, keymap, state, expected):
        """spare lists just these, and by compare no other one can be dropped alone."""
        with self.subTest(state=state):
            told = call(spare, keymap, state)
            self.assertEqual(exactly(told), exactly(expected))
            for layer, row in enumerate(keymap[3]):
                for index in range(len(row)):
                    dropped = without(keymap, layer, index)
                    self.assertTrue(is_map(dropped))
                    same = call(compare, keymap, dropped, state)[0] == "same"
                    self.assertEqual(same, (layer, index) in told)
                    self.assertEqual(plain_least(keymap, dropped, state) is None, same)

    def test_none(self):
        self.spared(PLAIN, (), [])
        self.spared(with_part(PLAIN, 3, ((),)), (), [])
        self.spared(with_part(PLAIN, 3, ((), (), (), ())), (), [])

    def test_hidden_by_an_equal_one(self):
        keymap = with_part(PLAIN, 3, (PLAIN[3][0], (), (("j", {}, "leave"), ("x", {}, "down"), ("jk", {}, None))))
        self.spared(keymap, (), [(2, 0), (2, 2)])

    def test_a_condition_that_never_holds(self):
        keymap = one_flag(("j", {"a": True}, "go"), ("k", {"a": True}, "stay"), ("j", {}, "stay"))
        self.spared(keymap, FALSE, [(0, 0), (0, 1)])
        self.spared(keymap, TRUE, [(0, 2)])
        self.spared(with_part(keymap, 1, ("a",)), FALSE, [])
        self.spared(one_flag(("j", {"a": True}, "go"), ("l", {}, "on")), FALSE, [])

    def test_two_equal_ones_of_which_each_alone_can_be_dropped(self):
        self.spared(with_part(PLAIN, 3, (PLAIN[3][0], PLAIN[3][0])), (), [(0, 0), (0, 1), (1, 0), (1, 1)])
        # Of both, none can be dropped where a third one stands between them.
        keymap = with_part(PLAIN, 3, ((("j", {}, "down"), ("j", {}, "leave"), ("j", {}, "down")),))
        self.spared(keymap, (), [(0, 1), (0, 2)])
        self.spared(with_part(PLAIN, 3, ((("j", {}, "down"),) * 3,)), (), [(0, 0), (0, 1), (0, 2)])

    def test_the_same_command_as_without_it(self):
        keymap = one_flag(("j", {"a": True}, "go"), ("j", {}, "go"), ("k", {"a": True}, "go"), ("k", {}, "stay"),
                          outside=("a",))
        for state in [FALSE, TRUE]:
            self.spared(keymap, state, [(0, 0)])

    def test_none_that_bars_another(self):
        keymap = one_flag(("j", {"a": True}, None), ("k", {}, None), ("x", {"a": False}, None),
                          ("j", {}, "go"), ("x", {"a": True}, "go"), outside=("a",))
        self.spared(keymap, FALSE, [(0, 1), (0, 2)])
        self.spared(with_part(keymap, 1, ()), FALSE, [(0, 0), (0, 1), (0, 2), (0, 4)])
        # Behind the barring one nothing matters.
        self.spared(one_flag(("j", {}, None), ("j", {}, "go")), TRUE, [(0, 1)])

    def test_one_that_alone_leads_to_a_state(self):
        keymap = one_flag(("l", {}, "on"), ("ll", {"a": True}, "on"), ("l", {"a": True}, "off"))
        self.spared(keymap, FALSE, [(0, 2)])

    def test_sixteen(self):
        layers = tuple(tuple((keys, {}, "go") for keys in ["j", "jk", "x", "j"]) for _ in range(4))
        keymap = with_part(one_flag(), 3, layers)
        self.spared(keymap, FALSE, [(layer, index) for layer in range(4) for index in range(4)])
        names = "abcdefghijklmnop"
        keymap = with_part(one_flag(), 3, (tuple((name, {}, "go") for name in names),))
        self.spared(keymap, FALSE, [])
        keymap = with_part(one_flag(), 3, (tuple((name, {}, None) for name in names),))
        self.spared(keymap, TRUE, [(0, index) for index in range(16)])

    def test_what_is_returned_is_new(self):
        for keymap in [PLAIN, with_part(PLAIN, 3, (PLAIN[3][0], PLAIN[3][0]))]:
            expected = exactly(spare(keymap, ()))
            call(spare, keymap, ()).append((0, 0))
            self.assertEqual(exactly(call(spare, keymap, ())), expected)

    def test_drawn(self):
        drawn = random.Random(112)
        many = [0, 0]
        for keymap, state in draw_many(drawn, 150):
            expected = [(layer, index) for layer, row in enumerate(keymap[3]) for index in range(len(row))
                        if plain_least(keymap, without(keymap, layer, index), state) is None]
            many[0] += len(expected)
            many[1] += sum(map(len, keymap[3])) - len(expected)
            self.spared(keymap, state, expected)
        self.assertGreater(min(many), 100, many)


class WrongTest(unittest.TestCase):

    def refused(self, kind, function, *arguments):
        with self.assertRaises(ValueError) as caught:
            call(function, *arguments)
        self.assertIs(type(caught.exception), kind)

    def test_the_earliest_error(self):
        wrong = with_part(KEYMAP, 4, 0)
        for state in [STATES[0], (), (0, 0), None]:
            self.refused(NoMap, changes, wrong, PLAIN, state)
            self.refused(NoMap, changes, KEYMAP, wrong, state)
            self.refused(NoMap, spare, wrong, state)
            self.refused(Unlike, changes, KEYMAP, PLAIN, state)
            self.refused(Unlike, changes, PLAIN, KEYMAP, state)
            for part in [(1, ()), (2, {**KEYMAP[2], "more": {}}), (2, {**KEYMAP[2], "up": {"b": False}}),
                         (0, ("a", "b", "c"))]:
                self.refused(Unlike, changes, KEYMAP, with_part(KEYMAP, *part), state)
        for state in [(), (0, 0), None, [False, False], (False,), (False, False, False)]:
            self.refused(NoState, changes, KEYMAP, with_part(KEYMAP, 4, 9), state)
            self.refused(NoState, spare, KEYMAP, state)

    def test_strange_things(self):
        for thing in STRANGE:
            self.refused(NoMap, changes, thing, KEYMAP, STATES[0])
            self.refused(NoMap, changes, KEYMAP, thing, STATES[0])
            self.refused(NoState, changes, KEYMAP, KEYMAP, thing)
            self.refused(NoMap, spare, thing, STATES[0])
            self.refused(NoState, spare, KEYMAP, thing)

    def test_another_wait_or_other_layers_are_no_reason(self):
        for state in all_states(KEYMAP):
            for other in [with_part(KEYMAP, 4, 1000), with_part(KEYMAP, 3, ((),))]:
                self.assertEqual(len(call(changes, KEYMAP, other, state)), 5)


if __name__ == "__main__":
    unittest.main()
