"""The examples of the document that have landed."""

import unittest

from everypiece.asks import all_pieces, gap, piece_numbered, span
from everypiece.blocks import coins, groups, levels
from everypiece.edits import edited, leading_back, place_behind
from everypiece.endings import endings, lengths
from everypiece.libraries import Library


class ExamplesTest(unittest.TestCase):

    def setUp(self):
        self.lib = Library(("abab",))

    def test_lib(self):
        self.assertEqual(self.lib.texts, ("abab",))

    def test_e01(self):
        self.assertEqual(edited(self.lib, ("put", 0, 1, "x")).texts, ("axbab",))
        self.assertEqual(leading_back(self.lib, ("put", 0, 1, "x")), (("cut", 0, 1, 1),))
        self.assertEqual(place_behind(self.lib, ("put", 0, 1, "x"), (0, 1)), (0, 2))

    def test_e02(self):
        self.assertEqual(coins(("a", "b", "a", "b")), (1, 0, 1, 0))
        self.assertEqual(groups(("a", "b", "a", "b")), (0, 2))
        self.assertEqual(levels("abab"), [(0, 1, 2, 3), (0, 2), (0,)])
        self.assertEqual(levels(""), [()])

    def test_e03(self):
        self.assertEqual(endings(self.lib), [(0, 2), (0, 0), (0, 3), (0, 1)])
        self.assertEqual(lengths(self.lib), [0, 2, 0, 1])
        self.assertEqual(span(self.lib, "ab"), (0, 2))
        self.assertEqual(gap(self.lib, "aa"), (None, (0, 2)))
        self.assertEqual(all_pieces(self.lib), 7)
        self.assertEqual(piece_numbered(self.lib, 3), "abab")


if __name__ == "__main__":
    unittest.main()
