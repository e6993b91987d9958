"""[1.1]: the classes of diesnon/errors.py."""

import unittest

from diesnon import errors


class Errors(unittest.TestCase):
    def test_base(self):
        self.assertEqual(errors.DiesError.__bases__, (ValueError,))

    def test_classes_stand_directly_under_the_base(self):
        for name in ("NotAllowed", "TooLarge", "Never", "BadForm", "Missing"):
            self.assertEqual(getattr(errors, name).__bases__, (errors.DiesError,))

    def test_attributes(self):
        self.assertEqual(errors.BadForm(7).line, 7)
        self.assertEqual(errors.Missing("court").name, "court")

    def test_plain_errors_are_raised_with_words(self):
        for kind in (errors.NotAllowed, errors.TooLarge, errors.Never):
            with self.assertRaises(kind):
                raise kind("words")
