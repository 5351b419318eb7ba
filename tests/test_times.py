"""[6] The greatest time that any call has passed: no later call passes a lesser one."""

import unittest

from keywait.errors import NoTime
from keywait.reader import Reader
from tests.samples import PLAIN, WAIT, call

LATEST = 10 ** 9
FLAGGED = (("a",), ("a",), {"down": {}, "leave": {}}, PLAIN[3], WAIT)


class TimeTest(unittest.TestCase):

    def passes(self, reader, time):
        """This is the greatest time that was passed: each call takes it, and nothing less."""
        state = reader.state()
        for name, values in [("key", ("x",)), ("change", ("a", state[0])), ("advance", ())]:
            with self.subTest(name=name, time=time - 1), self.assertRaises(NoTime):
                call(getattr(reader, name), *values, time - 1)
            call(getattr(reader, name), *values, time)
            reader.back(1)

    def test_after_each_kind_of_call(self):
        for time in [0, 3, LATEST]:
            for name, values in [("key", ("x", time)), ("key", ("j", time)), ("advance", (time,)),
                                 ("change", ("a", True, time)), ("change", ("a", False, time))]:
                reader = Reader(FLAGGED, (False,))
                self.passes(reader, 0)
                call(getattr(reader, name), *values)
                self.passes(reader, time)

    def test_after_calls_without_a_time(self):
        reader = Reader(FLAGGED, (False,))
        reader.advance(9)
        reader.finish()
        self.passes(reader, 9)
        reader.swap(FLAGGED)
        self.passes(reader, 9)

    def test_the_greatest_of_all(self):
        reader = Reader(FLAGGED, (False,))
        for time in [2, 2, 4, 9]:
            reader.key("j", time)
            self.passes(reader, time)
        reader.advance(14)
        self.passes(reader, 14)
        self.assertEqual(call(reader.key, "k", 14), [("do", "leave", "jk")])

    def test_a_call_that_was_taken_back_passes_no_time(self):
        reader = Reader(FLAGGED, (False,))
        reader.key("j", 2)
        for name, values in [("key", ("k", 9)), ("advance", (9,)), ("change", ("a", True, LATEST))]:
            call(getattr(reader, name), *values)
            self.passes(reader, values[-1])
            reader.back(1)
            self.passes(reader, 2)
        reader.back(1)
        self.passes(reader, 0)

    def test_a_call_that_was_refused_passes_no_time(self):
        reader = Reader(FLAGGED, (False,))
        for name, values in [("key", ("jk", 9)), ("change", ("b", True, 9)), ("change", ("a", 1, 9)),
                             ("advance", (LATEST + 1,))]:
            with self.assertRaises(ValueError):
                call(getattr(reader, name), *values)
            self.passes(reader, 0)


if __name__ == "__main__":
    unittest.main()
