"""[17] What holds of keymaps that behave alike, and of what compare and changes tell of drawn pairs."""

import random
import unittest

from keywait.changes import changes, spare
from keywait.compare import compare, is_agreement
from keywait.maps import bound
from keywait.reach import reachable
from keywait.reader import Reader
from keywait.reading import read
from tests.pairs import draw_pairs, draw_twins, without
from tests.samples import call, draw_call, draw_row


def of_both(drawn, one, other, time):
    """A drawn call other than swap, with gaps about as long as either wait."""
    while True:
        made = draw_call(drawn, drawn.choice([one, other]), time)
        if made[0] != "swap":
            return made


class AlikeTest(unittest.TestCase):

    def test_read_gives_the_same_events(self):
        drawn = random.Random(1701)
        waits = 0
        for one, other, state in draw_twins(drawn, 150):
            waits += one[4] != other[4]
            for _ in range(8):
                row = draw_row(drawn, drawn.choice([one, other]))
                self.assertEqual(call(read, one, state, row), call(read, other, state, row))
        self.assertGreater(waits, 5)

    def test_readers_give_the_same_in_each_call(self):
        drawn = random.Random(1702)
        for one, other, state in draw_twins(drawn, 150):
            readers, time = (Reader(one, state), Reader(other, state)), 0
            for _ in range(40):
                name, *values = of_both(drawn, one, other, time)
                time = values[-1] if values else time
                first, second = [call(getattr(reader, name), *values) for reader in readers]
                self.assertEqual(first, second)
                self.assertEqual(*[(reader.held(), reader.state(), reader.used()) for reader in readers])

    def test_a_swap_does_no_more_than_a_finish(self):
        drawn = random.Random(1703)
        swaps = 0
        for one, other, state in draw_twins(drawn, 150):
            swapped, finished, time = Reader(one, state), Reader(one, state), 0
            for _ in range(40):
                name, *values = of_both(drawn, one, other, time)
                time = values[-1] if values else time
                self.assertEqual(call(getattr(swapped, name), *values), call(getattr(finished, name), *values))
                if drawn.random() < 0.3:
                    swaps += swapped.held() != ""
                    keymap = drawn.choice([one, other])
                    self.assertEqual(call(swapped.swap, keymap), call(finished.finish))
                self.assertEqual((swapped.held(), swapped.state(), swapped.used(), swapped.calls()),
                                 (finished.held(), finished.state(), finished.used(), finished.calls()))
        self.assertGreater(swaps, 50)


class PairsTest(unittest.TestCase):

    def test_a_row_or_an_agreement(self):
        drawn = random.Random(1704)
        for one, other, state in draw_pairs(drawn, 300):
            word, told = call(compare, one, other, state)
            if word == "same":
                self.assertIs(call(is_agreement, one, other, state, told), True)
            else:
                self.assertEqual(word, "differ")
                self.assertNotEqual(read(one, state, told)[0], read(other, state, told)[0])

    def test_drawn_rows_differ_only_where_compare_says_so(self):
        drawn = random.Random(1705)
        seen = [0, 0]
        for one, other, state in draw_pairs(drawn, 300):
            same = call(compare, one, other, state)[0] == "same"
            for _ in range(10):
                row = draw_row(drawn, drawn.choice([one, other]), 12)
                equal = read(one, state, row)[0] == read(other, state, row)[0]
                seen[equal] += 1
                self.assertTrue(equal or not same)
        self.assertGreater(min(seen), 100, seen)

    def test_changes_lists_all_that_differs(self):
        drawn = random.Random(1706)
        for one, other, state in draw_pairs(drawn, 300):
            rebound, gained, lost, _, _ = call(changes, one, other, state)
            states = sorted(reachable(one, state))
            # What is bound and reached behind the edit can be told from what was before it.
            self.assertEqual(sorted([here for here in states if here not in lost] + gained),
                             sorted(reachable(other, state)))
            for here in states:
                if here not in lost:
                    table = bound(one, here)
                    for _, keys, before, after in [row for row in rebound if row[0] == here]:
                        self.assertEqual(table.pop(keys, None), before)
                        if after is not None:
                            table[keys] = after
                    self.assertEqual(table, bound(other, here))

    def test_a_spare_binding_that_is_dropped_changes_no_row(self):
        drawn = random.Random(1707)
        seen = 0
        for one, _, state in draw_pairs(drawn, 60):
            for layer, index in call(spare, one, state):
                seen += 1
                dropped = without(one, layer, index)
                for _ in range(4):
                    row = draw_row(drawn, one)
                    self.assertEqual(read(one, state, row), read(dropped, state, row))
        self.assertGreater(seen, 100)


if __name__ == "__main__":
    unittest.main()
