"""The examples, as the document and README.md print them."""

import doctest
import os
import unittest

README = os.path.join(os.path.dirname(os.path.dirname(os.path.abspath(__file__))), "README.md")

EXAMPLES = '''
>>> from keywait.reading import read
>>> keymap = ((), (), {"down": {}, "leave": {}}, ((("j", {}, "down"), ("jk", {}, "leave")),), 5)
>>> read(keymap, (), [("key", "j", 0), ("key", "k", 6)])
([('do', 'down', 'j'), ('text', 'k')], ())
>>> from keywait.reader import Reader
>>> keymap = ((), (), {"down": {}, "leave": {}}, ((("j", {}, "down"), ("jk", {}, "leave")),), 5)
>>> reader = Reader(keymap, ())
>>> [reader.key("j", 0), reader.held(), reader.advance(5), reader.advance(6), reader.held(), reader.used()]
[[], 'j', [], [('do', 'down', 'j')], '', 1]
>>> from keywait.reach import firing
>>> keymap = ((), (), {"down": {}, "up": {}}, ((("j", {}, "down"), ("j", {}, "up")),), 5)
>>> firing(keymap, (), 0, 1)
('never', {(): ('stronger', 0, 0)})
>>> from keywait.changes import changes
>>> before = ((), (), {"down": {}, "leave": {}}, ((("j", {}, "down"),),), 5)
>>> after = ((), (), {"down": {}, "leave": {}}, ((("j", {}, "down"), ("jk", {}, "leave")),), 5)
>>> changes(before, after, ())
([((), 'jk', None, 'leave')], [], [], [((), 'j', True)], [])
>>> from keywait.gaps import mattering
>>> keymap = ((), (), {"down": {}, "leave": {}}, ((("j", {}, "down"), ("jk", {}, "leave")),), 5)
>>> mattering(keymap, (), "xjk", "oo", 1)
'll'
'''


class ExamplesTest(unittest.TestCase):

    def as_printed(self, text, least):
        """All examples of the text print what stands below them."""
        found = doctest.DocTestParser().get_doctest(text, {}, "examples", None, 0)
        told = []
        result = doctest.DocTestRunner(verbose=False).run(found, out=told.append)
        self.assertEqual("".join(told), "")
        self.assertEqual(result.failed, 0)
        self.assertGreaterEqual(result.attempted, least)

    def test_of_the_document(self):
        self.as_printed(EXAMPLES, 17)

    def test_of_the_readme(self):
        with open(README, encoding="ascii") as file:
            lines = [line for line in file.read().splitlines() if not line.startswith("```")]
        self.as_printed("\n".join(lines) + "\n", 20)

    def test_k_at_the_wait_and_behind_it(self):
        self.as_printed(EXAMPLES.replace('("key", "k", 6)', '("key", "k", 5)').replace(
            "[('do', 'down', 'j'), ('text', 'k')]", "[('do', 'leave', 'jk')]"), 17)


if __name__ == "__main__":
    unittest.main()
