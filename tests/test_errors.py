"""keywait.errors: the classes, their bases and their attributes."""

import unittest

from keywait import errors

FROM_TEXT = [
    "NoMap", "NoState", "NoKeys", "NoCommand", "NoRow", "NoTime", "NoFlag", "Unlike", "NoGaps",
    "NoNumber",
]


class ErrorsTest(unittest.TestCase):

    def test_base_of_all_is_a_value_error(self):
        self.assertEqual(errors.KeywaitError.__bases__, (ValueError,))

    def test_each_has_that_base_and_is_defined_here(self):
        for name in FROM_TEXT + ["NoBinding", "NoText"]:
            with self.subTest(name=name):
                kind = getattr(errors, name)
                self.assertEqual(kind.__bases__, (errors.KeywaitError,))
                self.assertEqual((kind.__name__, kind.__module__), (name, "keywait.errors"))

    def test_made_from_a_text(self):
        for name in ["KeywaitError"] + FROM_TEXT:
            with self.subTest(name=name):
                made = getattr(errors, name)("the words")
                self.assertEqual(str(made), "the words")
                with self.assertRaises(errors.KeywaitError):
                    raise made

    def test_binding_has_layer_and_index(self):
        made = errors.NoBinding(2, 7)
        self.assertEqual((made.layer, made.index), (2, 7))
        self.assertIsInstance(str(made), str)

    def test_text_has_line(self):
        made = errors.NoText(3)
        self.assertEqual(made.line, 3)
        self.assertIsInstance(str(made), str)

    def test_attributes_belong_to_each_object(self):
        one, other = errors.NoBinding(0, 1), errors.NoBinding(1, 0)
        self.assertEqual((one.layer, one.index, other.layer, other.index), (0, 1, 1, 0))
        self.assertEqual([errors.NoText(0).line, errors.NoText(12).line], [0, 12])
        self.assertEqual(vars(one), {"layer": 0, "index": 1})
        self.assertEqual(vars(errors.NoText(0)), {"line": 0})


if __name__ == "__main__":
    unittest.main()
