"""[15] The machine of a keymap: what each input gives, with as few numbers as possible; and what parts two."""

import random
import string
import unittest
from itertools import product

from keywait.errors import NoMap, NoNumber, NoState
from keywait.machines import machine, parting
from keywait.reader import Reader
from tests.samples import (
    KEYMAP, PLAIN, STATES, STRANGE, WAIT, binding_just, call, draw_many, exactly, with_part,
)

J, JK = ("do", "down", "j"), ("do", "leave", "jk")


def plain_inputs(keymap):
    """The inputs, as [15] lists them."""
    letters = {letter for row in keymap[3] for binding in row for letter in binding[0]}
    return [*sorted(letters), "*", "silence",
            *[("set", flag, value) for flag in keymap[1] for value in (False, True)]]


def as_reader(keymap, reader, word):
    """What a Reader tells for the input within its burst, in which * is a letter that no binding has."""
    if word == "silence":
        return reader.finish()
    if isinstance(word, tuple):
        return reader.change(word[1], word[2], 0)
    if word != "*":
        return reader.key(word, 0)
    other = [letter for letter in string.ascii_lowercase if letter not in plain_inputs(keymap)][-1]
    return [("text", "*") if event == ("text", other) else event for event in reader.key(other, 0)]


def plain_parted(table):
    """All pairs of numbers that some row of inputs parts, by marking them again and again."""
    numbers = range(len(table))
    parted = {(one, other) for one in numbers for other in numbers
              if any(table[one][word][0] != table[other][word][0] for word in table[0])}
    before = None
    while before != len(parted):
        before = len(parted)
        parted |= {(one, other) for one in numbers for other in numbers
                   if any((table[one][word][1], table[other][word][1]) in parted for word in table[0])}
    return parted


def run(table, number, words):
    """The events of each of the inputs."""
    told = []
    for word in words:
        events, number = table[number][word]
        told.append(events)
    return told


class MachineCase(unittest.TestCase):

    def made(self, keymap, state, many=None):
        """The machine, after a check of its form, its numbering and that no two numbers are alike."""
        table = call(machine, keymap, state)
        inputs = plain_inputs(keymap)
        self.assertIs(type(table), list)
        if many is not None:
            self.assertEqual(len(table), many)
        met = [0]
        for number, row in enumerate(table):
            self.assertIs(type(row), dict)
            self.assertEqual(sorted(map(exactly, row)), sorted(map(exactly, inputs)))
            # A number is met before its own turn comes.
            self.assertLess(number, len(met))
            for word in inputs:
                self.assertEqual((type(row[word]), len(row[word])), (tuple, 2))
                events, behind = row[word]
                self.assertEqual((type(events), type(behind)), (list, int))
                if behind not in met:
                    met.append(behind)
        self.assertEqual(met, list(range(len(table))))
        every = {(one, other) for one in met for other in met if one != other}
        self.assertEqual(plain_parted(table), every)
        return table

    def as_readers(self, keymap, state, table, drawn, many=40):
        """The machine tells in each call what a Reader tells."""
        reader, number = Reader(keymap, state), 0
        for _ in range(many):
            word = drawn.choice(plain_inputs(keymap))
            events, number = table[number][word]
            self.assertEqual(exactly(events), exactly(as_reader(keymap, reader, word)))


class MachineTest(MachineCase):

    def told(self, keymap, state, expected):
        """The machine is just this."""
        self.assertEqual(exactly(self.made(keymap, state)), exactly(expected))

    def test_no_bindings(self):
        for keymap in [with_part(PLAIN, 3, ((),)), with_part(PLAIN, 3, ((), (), ()))]:
            self.told(keymap, (), [{"*": ([("text", "*")], 0), "silence": ([], 0)}])

    def test_one_binding(self):
        self.told(binding_just("j"), (), [
            {"j": ([("do", "j", "j")], 0), "*": ([("text", "*")], 0), "silence": ([], 0)}])
        self.told(with_part(PLAIN, 3, ((("j", {}, None),),)), (), [
            {"j": ([("text", "j")], 0), "*": ([("text", "*")], 0), "silence": ([], 0)}])

    def test_a_sequence_that_waits(self):
        self.told(PLAIN, (), [
            {"j": ([], 1), "k": ([("text", "k")], 0), "*": ([("text", "*")], 0), "silence": ([], 0)},
            {"j": ([J], 1), "k": ([JK], 0), "*": ([J, ("text", "*")], 0), "silence": ([J], 0)}])

    def test_letters_without_a_command_are_inputs_too(self):
        keymap = with_part(PLAIN, 3, ((("zx", {}, None), ("b", {}, "down")),))
        table = self.made(keymap, (), 1)
        self.assertEqual(set(table[0]), {"b", "x", "z", "*", "silence"})
        self.assertEqual(table[0]["z"], ([("text", "z")], 0))

    def test_sequences_of_four_letters(self):
        table = self.made(binding_just("abcd"), (), 4)
        text = [[("text", letter)] for letter in "abcd"]
        for number, letter in enumerate("abcd"):
            expected = ([("do", "abcd", "abcd")], 0) if letter == "d" else ([], number + 1)
            self.assertEqual(table[number][letter], expected)
        self.assertEqual(table[3]["a"], (text[0] + text[1] + text[2], 1))
        self.assertEqual(table[3]["*"], (text[0] + text[1] + text[2] + [("text", "*")], 0))
        self.assertEqual(table[2]["silence"], (text[0] + text[1], 0))
        self.assertEqual(table[2]["d"], (text[0] + text[1] + text[3], 0))

    def test_a_rest_that_is_held_again(self):
        table = self.made(binding_just("aaab", "ab"), (), 4)
        self.assertEqual(table[3]["a"], ([("text", "a")], 3))
        self.assertEqual(table[2]["b"], ([("text", "a"), ("do", "ab", "ab")], 0))
        self.assertEqual(table[3]["b"], ([("do", "aaab", "aaab")], 0))

    def test_the_sign_behind_held_keys(self):
        keymap = with_part(PLAIN, 3, ((("jkl", {}, "leave"), ("j", {}, "down"), ("kl", {}, "down")),))
        table = self.made(keymap, ())
        held = table[table[0]["j"][1]]["k"][1]
        self.assertEqual(table[held]["*"], ([J, ("text", "k"), ("text", "*")], 0))
        self.assertEqual(table[held]["silence"], ([J, ("text", "k")], 0))

    def test_flags_that_only_commands_change(self):
        keymap = (("a",), (), {"on": {"a": True}, "off": {"a": False}},
                  ((("j", {"a": False}, "on"), ("j", {}, "off")),), WAIT)
        on, off = ("do", "on", "j"), ("do", "off", "j")
        text = {"*": ([("text", "*")], 0), "silence": ([], 0)}
        other = {"*": ([("text", "*")], 1), "silence": ([], 1)}
        self.told(keymap, (False,), [{"j": ([on], 1), **text}, {"j": ([off], 0), **other}])
        self.told(keymap, (True,), [{"j": ([off], 1), **text}, {"j": ([on], 0), **other}])

    def test_changes_from_outside(self):
        keymap = (("a", "b"), ("b",), {"go": {}}, ((("j", {"b": True}, "go"), ("jk", {"b": True}, "go")),), WAIT)
        table = self.made(keymap, (False, False), 3)
        self.assertEqual(set(table[0]), {"j", "k", "*", "silence", ("set", "b", False), ("set", "b", True)})
        self.assertEqual(table[0][("set", "b", False)], ([], 0))
        self.assertEqual(table[0][("set", "b", True)], ([], 1))
        self.assertEqual(table[1]["j"], ([], 2))
        self.assertEqual(table[2][("set", "b", True)], ([("do", "go", "j")], 1))
        self.assertEqual(table[2][("set", "b", False)], ([("do", "go", "j")], 0))

    def test_states_that_behave_alike_for_ever_are_one(self):
        keymap = (("a", "b"), ("a", "b"), {"go": {}, "on": {"a": True}},
                  ((("j", {"a": True}, "go"), ("j", {}, "go"), ("k", {}, "on")),), WAIT)
        for state in STATES:
            self.made(keymap, state, 1)
        # Nothing turns b on, so a means nothing either.
        keymap = (("a", "b"), ("a",), {"go": {}}, ((("jk", {"a": True, "b": True}, "go"),),), WAIT)
        self.made(keymap, (False, False), 1)
        self.made(keymap, (False, True), 3)

    def test_states_that_part_only_later(self):
        # In which state k is pressed shows only behind the second j.
        keymap = (("a", "b"), (), {"k": {"a": True}, "j": {"b": True}, "x": {}, "y": {}},
                  ((("k", {"b": False}, "k"), ("j", {"b": False}, "j"), ("j", {"a": True}, "x"), ("j", {}, "y")),),
                  WAIT)
        self.made(keymap, (False, False), 4)
        self.made(keymap, (True, False), 2)

    def test_the_same_held_keys_in_states_that_differ(self):
        keymap = (("a",), ("a",), {"go": {}, "no": {}},
                  ((("jk", {"a": True}, "go"), ("jk", {"a": False}, "no")),), WAIT)
        table = self.made(keymap, (False,), 4)
        self.assertEqual(table[table[0]["j"][1]]["k"][0], [("do", "no", "jk")])
        # Alike as long as nothing is held, and behind it.
        keymap = (("a",), (), {"go": {"a": True}, "no": {"a": True}},
                  ((("jk", {"a": True}, "go"), ("jk", {"a": False}, "no")),), WAIT)
        self.made(keymap, (False,), 4)
        self.made(keymap, (True,), 2)

    def test_held_keys_that_behave_alike_are_one(self):
        # Behind a and behind b the same letters lead to the same events, but silence tells them apart.
        self.made(binding_just("ax", "bx"), (), 3)
        self.made(binding_just("ab", "aab"), (), 3)

    def test_all_letters_bound(self):
        letters = string.ascii_lowercase
        keymap = with_part(PLAIN, 3, (tuple((letters[place:place + 2], {}, "down") for place in range(0, 26, 2)),))
        table = self.made(keymap, (), 14)
        self.assertEqual(set(table[0]), {*letters, "*", "silence"})
        self.assertEqual(table[1]["*"], ([("text", "a"), ("text", "*")], 0))
        self.assertEqual([table[0][letter][1] for letter in letters[::2]], list(range(1, 14)))

    def test_the_numbers_as_they_are_first_met(self):
        table = self.made(binding_just("zab", "ay", "bx", "zb"), ())
        self.assertEqual([table[0][letter][1] for letter in "abz"], [1, 2, 3])
        self.assertEqual(table[3]["a"][1], 4)
        keymap = (("a",), ("a",), {"go": {}}, ((("zz", {"a": True}, "go"), ("y", {}, "go")),), WAIT)
        table = self.made(keymap, (True,), 3)
        self.assertEqual((table[0]["z"][1], table[0][("set", "a", False)][1]), (1, 2))

    def test_what_is_returned_is_new(self):
        for keymap, state in [(PLAIN, ()), (KEYMAP, STATES[2])]:
            expected = exactly(machine(keymap, state))
            table = call(machine, keymap, state)
            lists = [events for row in table for events, _ in row.values()]
            self.assertEqual(len({id(one) for one in lists}), len(lists))
            self.assertEqual(len({id(row) for row in table}), len(table))
            for one in lists:
                one.append(None)
            for row in table:
                row.clear()
            table.clear()
            self.assertEqual(exactly(call(machine, keymap, state)), expected)

    def test_the_order_of_a_dict_means_nothing(self):
        turned = with_part(KEYMAP, 2, dict(reversed(KEYMAP[2].items())))
        for state in STATES:
            self.assertEqual(exactly(call(machine, KEYMAP, state)), exactly(call(machine, turned, state)))

    def test_drawn(self):
        drawn = random.Random(15)
        many = {}
        for keymap, state in draw_many(drawn, 200):
            table = self.made(keymap, state)
            many[len(table)] = many.get(len(table), 0) + 1
            for _ in range(3):
                self.as_readers(keymap, state, table, drawn)
        self.assertGreater(len(many), 10, many)


class PartingTest(MachineCase):

    def parts(self, keymap, state, table, one, other, number):
        """parting tells a list of so many inputs that parts the two."""
        words = call(parting, keymap, state, one, other)
        self.assertIs(type(words), list)
        self.assertEqual(len(words), number)
        self.assertTrue(all(exactly(word) in map(exactly, table[0]) for word in words))
        first, second = run(table, one, words), run(table, other, words)
        self.assertEqual(first[:-1], second[:-1])
        self.assertNotEqual(first[-1], second[-1])
        return words

    def all_pairs(self, keymap, state):
        """parting tells shortest lists for all pairs: the numbers of them, by length."""
        table = call(machine, keymap, state)
        numbers = range(len(table))
        found = {}
        for one, other in product(numbers, repeat=2):
            if one == other:
                self.assertIsNone(call(parting, keymap, state, one, other))
                continue
            number = shortest(table, one, other)
            self.parts(keymap, state, table, one, other, number)
            found[number] = found.get(number, 0) + 1
        return found

    def test_the_same_number(self):
        self.assertIsNone(call(parting, PLAIN, (), 0, 0))
        self.assertIsNone(call(parting, PLAIN, (), 1, 1))

    def test_neighbours(self):
        table = machine(PLAIN, ())
        self.parts(PLAIN, (), table, 0, 1, 1)
        self.parts(PLAIN, (), table, 1, 0, 1)

    def test_either_order(self):
        self.assertEqual(self.all_pairs(binding_just("abcd"), ()), {1: 12})
        self.assertGreater(len(self.all_pairs(KEYMAP, STATES[0])), 0)

    def test_numbers_that_part_only_behind_several_inputs(self):
        # Only in one of two states, and only behind up and over, x is bound.
        keymap = (("a", "b", "c"), (), {"pick": {"a": True}, "up": {"b": True}, "over": {"c": True}, "x": {}},
                  ((("p", {"b": False}, "pick"), ("u", {}, "up"), ("o", {"b": True}, "over"),
                    ("x", {"a": True, "c": True}, "x")),), WAIT)
        table = machine(keymap, (False, False, False))
        picked = table[0]["p"][1]
        words = self.parts(keymap, (False, False, False), table, 0, picked, 3)
        self.assertEqual(words, ["u", "o", "x"])
        self.assertEqual(self.parts(keymap, (False, False, False), table, picked, 0, 3), words)
        self.assertEqual(set(self.all_pairs(keymap, (False, False, False))), {1, 2, 3})

    def test_the_shortest_of_several_ways(self):
        # Behind j, x tells the two apart; behind k, which comes later in the order, only m and then x.
        keymap = (("a", "b", "c"), (), {"pick": {"a": True}, "near": {"b": True}, "far": {"c": True}, "x": {}},
                  ((("p", {"b": False, "c": False}, "pick"), ("j", {"c": False}, "near"), ("k", {"b": False}, "far"),
                    ("m", {"c": True}, "near"), ("x", {"a": True, "b": True}, "x")),), WAIT)
        table = machine(keymap, (False, False, False))
        words = self.parts(keymap, (False, False, False), table, 0, table[0]["p"][1], 2)
        self.assertEqual(words, ["j", "x"])

    def test_a_change_from_outside_parts(self):
        keymap = (("a", "b"), ("b",), {"on": {"a": True}, "go": {}},
                  ((("j", {"b": False}, "on"), ("j", {"a": True}, "go")),), WAIT)
        table = machine(keymap, (False, False))
        words = self.parts(keymap, (False, False), table, 0, table[0]["j"][1], 2)
        self.assertEqual(words, [("set", "b", True), "j"])

    def test_what_is_returned_is_new(self):
        call(parting, PLAIN, (), 0, 1).clear()
        self.assertEqual(len(call(parting, PLAIN, (), 0, 1)), 1)

    def test_drawn(self):
        drawn = random.Random(151)
        seen = {}
        for keymap, state in draw_many(drawn, 300):
            if len(machine(keymap, state)) <= 9:
                for number, many in self.all_pairs(keymap, state).items():
                    seen[number] = seen.get(number, 0) + many
        self.assertGreater(seen[1], 100, seen)
        self.assertGreater(seen[2], 5, seen)


def shortest(table, one, other):
    """How many inputs part the two numbers, at least: all pairs that a step leads to, step by step."""
    pairs, many = {(one, other)}, 1
    while not any(table[first][word][0] != table[second][word][0] for first, second in pairs for word in table[0]):
        pairs |= {(table[first][word][1], table[second][word][1]) for first, second in pairs for word in table[0]}
        many += 1
    return many


class WrongTest(unittest.TestCase):

    def refused(self, kind, function, *arguments):
        with self.subTest(function=function.__name__, arguments=repr(arguments[1:])[:60]):
            with self.assertRaises(ValueError) as caught:
                call(function, *arguments)
            self.assertIs(type(caught.exception), kind)

    def test_numbers(self):
        self.assertEqual(len(machine(PLAIN, ())), 2)
        for number in [2, 3, -1, -2, 10 ** 19, -(10 ** 19), None, True, False, "0", "", [0], (0,), {}, [], ()]:
            self.refused(NoNumber, parting, PLAIN, (), number, 0)
            self.refused(NoNumber, parting, PLAIN, (), 1, number)
            self.refused(NoNumber, parting, PLAIN, (), number, number)
            self.refused(NoNumber, parting, PLAIN, (), number, None)

    def test_strange_things(self):
        for thing in STRANGE:
            if exactly(thing) not in ["0", "1"]:
                self.refused(NoNumber, parting, PLAIN, (), thing, 0)
                self.refused(NoNumber, parting, PLAIN, (), 0, thing)
            self.refused(NoMap, machine, thing, ())
            self.refused(NoMap, parting, thing, (), 0, 0)
            self.refused(NoState, machine, KEYMAP, thing)
            self.refused(NoState, parting, KEYMAP, thing, 0, 0)

    def test_the_earliest_error(self):
        for one, other in [(0, 0), (99, 99), (None, True)]:
            for state in [STATES[0], (0, 0), None]:
                self.refused(NoMap, parting, with_part(KEYMAP, 4, True), state, one, other)
            for state in [(), (0, 0), None, [False, False]]:
                self.refused(NoState, parting, KEYMAP, state, one, other)
        self.refused(NoMap, machine, with_part(KEYMAP, 4, True), None)


if __name__ == "__main__":
    unittest.main()
