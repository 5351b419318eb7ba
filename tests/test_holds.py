"""[17] What holds of Readers, splits, swaps and firing, over many drawn keymaps and calls."""

import random
import unittest
from itertools import product

from keywait.futures import futures, is_split
from keywait.maps import bound, winner
from keywait.reach import firing, is_never
from keywait.reader import Reader
from keywait.reading import read
from tests.samples import (
    all_states, call, draw_call, draw_many, draw_map, draw_row, draw_state, exactly, plain_edges, plain_read,
    plain_steps, typed, with_part,
)

TAILS = ["".join(letters) for many in range(4) for letters in product("jklx", repeat=many)]


class Words:
    """What [17] says that a Reader has told, worked out anew from all calls that stand."""

    def __init__(self, keymap, state):
        self.start = (keymap, state)
        self.tables = {}

    def bound(self, keymap, state):
        """The bound sequences, looked up once for each state of each keymap."""
        if (id(keymap), state) not in self.tables:
            # The keymap is kept as well, so that no other one gets its id.
            self.tables[id(keymap), state] = (bound(keymap, state), keymap)
        return self.tables[id(keymap), state][0]

    def events(self, keymap, state, keys):
        """(event, state behind it) for each event of a burst of these keys."""
        told = []
        while keys:
            table = self.bound(keymap, state)
            fitting = [keys[:many] for many in (4, 3, 2, 1) if keys[:many] in table]
            event = ("do", table[fitting[0]], fitting[0]) if fitting else ("text", keys[0])
            effect = keymap[2][event[1]] if fitting else {}
            state = tuple(effect.get(flag, value) for flag, value in zip(keymap[0], state))
            told.append((event, state))
            keys = keys[len(event[-1]):]
        return told

    def common(self, keymap, state, keys):
        """The longest list with which the events begin, however the burst goes on."""
        readings = [self.events(keymap, state, keys + tail) for tail in TAILS]
        told = []
        for column in zip(*readings):
            if any(one != column[0] for one in column):
                break
            told.append(column[0])
        return told

    def told(self, calls):
        """(events, held, state) behind these calls."""
        keymap, state = self.start
        events, keys, last = [], "", 0
        for name, *values in calls:
            late = name in ("key", "advance", "change") and values[-1] > last + keymap[4]
            if late or name in ("change", "finish", "swap"):
                for event, state in self.events(keymap, state, keys):
                    events.append(event)
                keys = ""
            if name == "key":
                keys, last = keys + values[0], values[1]
            elif name == "change":
                place = keymap[0].index(values[0])
                state = state[:place] + (values[1],) + state[place + 1:]
            elif name == "swap":
                keymap = values[0]
        for event, state in self.common(keymap, state, keys):
            events.append(event)
            keys = keys[len(event[-1]):]
        return events, keys, state


class CallsTest(unittest.TestCase):

    def test_the_events_of_the_calls_that_stand(self):
        drawn = random.Random(171)
        seen = {"held": 0, "back": 0, "three": 0}
        for _ in range(120):
            keymap = draw_map(drawn, drawn.choice([1, 2, 5]))
            state = draw_state(drawn, keymap)
            reader, words, calls, told, time = Reader(keymap, state), Words(keymap, state), [], [[]], 0
            for _ in range(30):
                if drawn.random() < 0.1:
                    count = drawn.randint(0, min(len(calls), 4))
                    call(reader.back, count)
                    calls, told = calls[:len(calls) - count], told[:len(told) - count]
                    time = max([0] + [one[-1] for one in calls if one[0] in ("key", "advance", "change")])
                    seen["back"] += 1
                else:
                    calls.append(draw_call(drawn, keymap, time))
                    told.append(told[-1] + call(getattr(reader, calls[-1][0]), *calls[-1][1:]))
                    if calls[-1][0] in ("key", "advance", "change"):
                        time = calls[-1][-1]
                events, held, here = words.told(calls)
                self.assertEqual(told[-1], events)
                shown = (reader.held(), reader.state(), reader.used(), reader.calls())
                used = sum(len(event[-1]) for event in events)
                self.assertEqual(exactly(shown), exactly((held, here, used, len(calls))))
                seen["held"] += held != ""
                seen["three"] += len(held) == 3
        self.assertGreater(min(seen.values()), 10, seen)

    def test_a_row_and_a_finish_are_read(self):
        drawn = random.Random(172)
        for keymap, state in draw_many(drawn, 300):
            row = draw_row(drawn, keymap, 20)
            expected, last = read(keymap, state, row)
            reader, events = Reader(keymap, state), []
            for place, (word, *values) in enumerate(row):
                events += call(reader.key if word == "key" else reader.change, *values)
                # A prefix of what is read in the end, and with a pause here all that is read so far.
                self.assertEqual(events, expected[:len(events)])
                pause = call(reader.finish)
                self.assertEqual((events + pause, reader.state()), read(keymap, state, row[:place + 1]))
                reader.back(1)
            events += call(reader.finish)
            self.assertEqual(exactly((events, reader.state())), exactly((expected, last)))
            self.assertEqual((reader.held(), reader.calls()), ("", len(row) + 1))

    def test_silence_between_the_entries_changes_nothing(self):
        drawn = random.Random(173)
        for keymap, state in draw_many(drawn, 200):
            row = draw_row(drawn, keymap, 20)
            reader, events, time = Reader(keymap, state), [], 0
            for word, *values in row:
                for _ in range(drawn.randint(0, 2)):
                    time = drawn.randint(time, values[-1])
                    events += call(reader.advance, time)
                events += call(reader.key if word == "key" else reader.change, *values)
                time = values[-1]
            events += call(reader.advance, time + keymap[4] + 1)
            self.assertEqual((events, reader.state(), reader.held()), (*read(keymap, state, row), ""))


class HeldTest(unittest.TestCase):

    def next_event(self, reader, letters, time):
        """The next event that the Reader tells if these letters and silence follow; it goes back then."""
        told = [call(reader.key, letter, time) for letter in letters] + [call(reader.finish)]
        reader.back(len(letters) + 1)
        return sum(told, [])[0]

    def test_with_keys_held_a_split_parts_at_the_very_next_event(self):
        drawn = random.Random(174)
        seen = 0
        for keymap, state in draw_many(drawn, 150):
            reader = Reader(keymap, state)
            for word, *values in draw_row(drawn, keymap, 20):
                call(reader.key if word == "key" else reader.change, *values)
                held = reader.held()
                self.assertLessEqual(len(held), 3)
                if held:
                    seen += 1
                    split = call(futures, keymap, reader.state(), held)
                    self.assertIs(call(is_split, keymap, reader.state(), held, split), True)
                    one, other = [self.next_event(reader, letters, values[-1]) for letters in split]
                    self.assertNotEqual(one, other)
                    self.assertEqual(reader.held(), held)
        self.assertGreater(seen, 300)

    def test_without_keys_held_nothing_is_open(self):
        drawn = random.Random(175)
        for keymap, state in draw_many(drawn, 100):
            reader = Reader(keymap, state)
            for place, letter in enumerate("jkljjxkjlkj"):
                call(reader.key, letter, 0)
                if not reader.held():
                    self.assertEqual(call(reader.finish), [])
                    reader.back(1)
                    self.assertEqual(reader.used(), place + 1)


class SwapTest(unittest.TestCase):

    def behave_alike(self, one, other):
        """Whether all states bind the same sequences to the same commands."""
        return all(bound(one, here) == bound(other, here) for here in all_states(one))

    def test_between_keymaps_that_behave_alike_it_does_no_more_than_a_finish(self):
        drawn = random.Random(176)
        for _ in range(120):
            keymap = draw_map(drawn)
            # All in one layer: the first that wins is the same.
            twin = with_part(keymap, 3, (sum(keymap[3], ()) * (2 if sum(map(len, keymap[3])) <= 8 else 1),))
            self.assertTrue(self.behave_alike(keymap, twin))
            state = draw_state(drawn, keymap)
            swapped, finished = Reader(keymap, state), Reader(keymap, state)
            for word, *values in draw_row(drawn, keymap, 20):
                name = "key" if word == "key" else "change"
                self.assertEqual(call(getattr(swapped, name), *values), call(getattr(finished, name), *values))
                if drawn.random() < 0.3:
                    self.assertEqual(call(swapped.swap, drawn.choice([keymap, twin])), call(finished.finish))
                self.assertEqual((swapped.held(), swapped.state()), (finished.held(), finished.state()))
                self.assertEqual((swapped.used(), swapped.calls()), (finished.used(), finished.calls()))


class FiringTest(unittest.TestCase):

    def test_every_binding_that_has_a_command_has_an_answer(self):
        drawn = random.Random(177)
        for keymap, state in draw_many(drawn, 100):
            for layer, row in enumerate(keymap[3]):
                for index, (keys, _, command) in enumerate(row):
                    if command is None:
                        continue
                    word, told = call(firing, keymap, state, layer, index)
                    if word == "never":
                        self.assertIs(call(is_never, keymap, state, layer, index, told), True)
                        continue
                    self.assertEqual(word, "row")
                    fired = [here for here, event in plain_steps(keymap, state, told)
                             if event == ("do", command, keys)]
                    self.assertTrue(any(winner(keymap, here, keys) == (layer, index) for here in fired))


class OracleTest(unittest.TestCase):

    def test_the_two_ways_in_which_the_tests_read_agree(self):
        drawn = random.Random(178)
        for keymap, state in draw_many(drawn, 100):
            letters = "".join(drawn.choice("jklx") for _ in range(8))
            told = Words(keymap, state).events(keymap, state, letters)
            events, last = plain_read(keymap, state, typed(letters))
            self.assertEqual([event for event, _ in told], events)
            self.assertEqual(told[-1][1], last)
            for keys, behind in plain_edges(keymap, state):
                if keys:
                    self.assertEqual(Words(keymap, state).events(keymap, state, keys)[-1][1], behind)


if __name__ == "__main__":
    unittest.main()
