"""[17] What holds over the whole program, over many drawn keymaps, states and rows."""

import random
import unittest

from keywait.changes import spare
from keywait.compare import compare
from keywait.doing import is_table, least_keys
from keywait.gaps import mattering, readings
from keywait.machines import machine
from keywait.maps import bound
from keywait.reach import reachable
from keywait.reader import Reader
from keywait.reading import read
from keywait.texts import read_map, write_map
from keywait.typist import type_text
from tests.pairs import all_rows, does, without
from tests.samples import call, draw_many, draw_map, draw_row, draw_state, draw_word, exactly, keys_in


class Machine:
    """Passes the entries of a row to a machine, as [15] says how."""

    def __init__(self, keymap, state):
        self.keymap = keymap
        self.table = machine(keymap, state)
        self.number = 0
        self.last = 0

    def step(self, word, letter="*"):
        """The events of the input, with the letter that stands for any other one."""
        events, self.number = self.table[self.number][word]
        return [("text", letter) if event == ("text", "*") else event for event in events]

    def entry(self, word, *values):
        """The events of an entry of a row."""
        events = []
        if values[-1] > self.last + self.keymap[4]:
            events += self.step("silence")
        if word == "set":
            return events + self.step(("set", *values[:2]))
        letter, self.last = values
        return events + self.step(letter if letter in self.table[0] else "*", letter)


def typing(keymap, state, text):
    """How the text is typed: the place that blocks it, or the number of pauses."""
    word, *told = call(type_text, keymap, state, text)
    return (word, told[0] if word == "blocked" else len(told[1]))


class EventsTest(unittest.TestCase):

    def same_calls(self, keymap, state, row, pauses):
        """A machine and a Reader tell the same in each call, with a pause behind these entries: all events."""
        reader, steps, told = Reader(keymap, state), Machine(keymap, state), []
        for place, (word, *values) in enumerate(row):
            events = call(reader.key if word == "key" else reader.change, *values)
            self.assertEqual(exactly(steps.entry(word, *values)), exactly(events))
            told += events
            if place in pauses:
                events = call(reader.finish)
                self.assertEqual(exactly(steps.step("silence")), exactly(events))
                told += events
        return told, reader.state()

    def test_a_machine_a_reader_and_read_tell_the_same(self):
        drawn = random.Random(1711)
        for keymap, state in draw_many(drawn, 250):
            for _ in range(3):
                row = draw_row(drawn, keymap, 25)
                told = self.same_calls(keymap, state, row, [len(row) - 1])
                if row:
                    self.assertEqual(told, call(read, keymap, state, row))
                self.same_calls(keymap, state, row, [place for place in range(len(row)) if drawn.random() < 0.2])

    def test_each_key_is_used_once_in_order(self):
        drawn = random.Random(1712)
        for keymap, state in draw_many(drawn, 200):
            row = draw_row(drawn, keymap)
            events, _ = call(read, keymap, state, row)
            self.assertEqual("".join(event[-1] for event in events),
                             "".join(entry[1] for entry in row if entry[0] == "key"))

    def test_readings_are_those_of_rows(self):
        drawn = random.Random(1713)
        for keymap, state in draw_many(drawn, 150):
            keys = draw_word(drawn, "jjklx", 9)
            gaps = "o" * (len(keys) - 1)
            told = [events for _, events in call(readings, keymap, state, keys, gaps)]
            row, time = [], 0
            for letter in keys:
                time += drawn.randint(0, 2 * keymap[4])
                row.append(("key", letter, time))
            self.assertIn(read(keymap, state, row)[0], told)
            if len(told) > 1:
                matters = [call(mattering, keymap, state, keys, gaps, place) for place in range(len(gaps))]
                self.assertNotEqual(matters, [None] * len(gaps))


class SpareTest(unittest.TestCase):

    def test_one_that_is_dropped_leaves_all_as_it_was(self):
        drawn = random.Random(1714)
        seen = 0
        for keymap, state in draw_many(drawn, 80):
            for layer, index in call(spare, keymap, state):
                seen += 1
                other = without(keymap, layer, index)
                row, text = draw_row(drawn, keymap), draw_word(drawn, "jklxyz", 12)
                self.assertEqual(read(keymap, state, row), read(other, state, row))
                self.assertEqual(typing(keymap, state, text), typing(other, state, text))
                numbers = [{here: number for here, (number, _) in reachable(one, state).items()}
                           for one in (keymap, other)]
                self.assertEqual(numbers[0], numbers[1])
                if keymap[2]:
                    names = tuple(drawn.choice(sorted(keymap[2])) for _ in range(drawn.randint(1, 4)))
                    self.assertEqual(least_keys(keymap, state, names)[0], least_keys(other, state, names)[0])
        self.assertGreater(seen, 150)


class TextsTest(unittest.TestCase):

    def test_what_is_written_and_read_behaves_alike(self):
        drawn = random.Random(1715)
        for keymap, state in draw_many(drawn, 150):
            again = call(read_map, call(write_map, keymap))
            self.assertEqual(exactly(again), exactly(keymap))
            self.assertEqual(call(compare, keymap, again, state), ("same", sorted(reachable(keymap, state))))
            row = draw_row(drawn, keymap)
            self.assertEqual(read(keymap, state, row), read(again, state, row))
            self.assertEqual(exactly(machine(keymap, state)), exactly(machine(again, state)))


class DoingTest(unittest.TestCase):

    def test_one_command_takes_a_way_and_a_sequence(self):
        drawn = random.Random(1716)
        seen = {}
        for keymap, state in draw_many(drawn, 250):
            found = call(reachable, keymap, state)
            for name in keymap[2]:
                sums = [number + len(keys) for here, (number, _) in found.items()
                        for keys, command in bound(keymap, here).items() if command == name]
                number, row, table = call(least_keys, keymap, state, (name,))
                self.assertEqual(number, min(sums, default=None))
                self.assertEqual(row is None, number is None)
                self.assertIs(call(is_table, keymap, (name,), table), True)
                seen[number] = seen.get(number, 0) + 1
        self.assertTrue(all(seen.get(number, 0) > 20 for number in [None, 1, 2, 3]), seen)

    def test_drawn_rows_take_no_fewer_keys(self):
        drawn = random.Random(1717)
        seen = 0
        for keymap, state in draw_many(drawn, 150):
            for _ in range(5):
                row = draw_row(drawn, keymap, 20)
                fired = [event[1] for event in read(keymap, state, row)[0] if event[0] == "do"]
                places = sorted(drawn.sample(range(len(fired)), min(len(fired), drawn.randint(1, 6))))
                names = tuple(fired[place] for place in places)
                if names:
                    seen += 1
                    number, shorter, _ = call(least_keys, keymap, state, names)
                    self.assertLessEqual(number, keys_in(row))
                    self.assertTrue(does(read(keymap, state, shorter)[0], names))
        self.assertGreater(seen, 200)

    def test_all_short_rows_take_no_fewer_keys(self):
        drawn = random.Random(1718)
        for _ in range(20):
            keymap = draw_map(drawn, 2)
            if not keymap[2]:
                continue
            state = draw_state(drawn, keymap)
            names = tuple(drawn.choice(sorted(keymap[2])) for _ in range(drawn.randint(1, 3)))
            number, _, _ = call(least_keys, keymap, state, names)
            for row in all_rows(keymap, "jkl", [0, 3], 2 if keymap[1] else 3):
                if does(read(keymap, state, row)[0], names):
                    self.assertIsNotNone(number)
                    self.assertLessEqual(number, keys_in(row))


if __name__ == "__main__":
    unittest.main()
