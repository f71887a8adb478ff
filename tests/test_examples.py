"""The examples of the document that have landed."""

import unittest

from everypiece.edits import edited, leading_back, place_behind
from everypiece.libraries import Library


class ExamplesTest(unittest.TestCase):

    def setUp(self):
        self.lib = Library(("abab",))

    def test_lib(self):
        self.assertEqual(self.lib.texts, ("abab",))

    def test_e01(self):
        self.assertEqual(edited(self.lib, ("put", 0, 1, "x")).texts, ("axbab",))
        self.assertEqual(leading_back(self.lib, ("put", 0, 1, "x")), (("cut", 0, 1, 1),))
        self.assertEqual(place_behind(self.lib, ("put", 0, 1, "x"), (0, 1)), (0, 2))


if __name__ == "__main__":
    unittest.main()
