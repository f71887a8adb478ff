"""The examples of the document, e01 to e08."""

import unittest

from everypiece.asks import all_pieces, gap, piece_numbered, span
from everypiece.blocks import coins, groups, levels
from everypiece.classes import class_of, classes, grown, least_pieces
from everypiece.disks import record
from everypiece.edits import edited, leading_back, place_behind
from everypiece.endings import endings, lengths
from everypiece.libraries import Library
from everypiece.patterns import fits, pattern_text
from everypiece.repeats import alone, lacking, longest_repeat
from everypiece.rows import row_ahead
from everypiece.runs import fewest_phrases, periods, runs
from everypiece.saves import edit_text
from everypiece.tongues import asked


class ExamplesTest(unittest.TestCase):

    def setUp(self):
        self.lib = Library(("abab",))

    def test_lib(self):
        self.assertEqual(self.lib.texts, ("abab",))

    def test_e01(self):
        self.assertEqual(edited(self.lib, ("put", 0, 1, "x")).texts, ("axbab",))
        self.assertEqual(leading_back(self.lib, ("put", 0, 1, "x")), (("cut", 0, 1, 1),))
        self.assertEqual(place_behind(self.lib, ("put", 0, 1, "x"), (0, 1)), (0, 2))

    def test_e02(self):
        self.assertEqual(coins(("a", "b", "a", "b")), (1, 0, 1, 0))
        self.assertEqual(groups(("a", "b", "a", "b")), (0, 2))
        self.assertEqual(levels("abab"), [(0, 1, 2, 3), (0, 2), (0,)])
        self.assertEqual(levels(""), [()])

    def test_e03(self):
        self.assertEqual(endings(self.lib), [(0, 2), (0, 0), (0, 3), (0, 1)])
        self.assertEqual(lengths(self.lib), [0, 2, 0, 1])
        self.assertEqual(span(self.lib, "ab"), (0, 2))
        self.assertEqual(gap(self.lib, "aa"), (None, (0, 2)))
        self.assertEqual(all_pieces(self.lib), 7)
        self.assertEqual(piece_numbered(self.lib, 3), "abab")

    def test_e04(self):
        self.assertEqual(row_ahead(self.lib), ("b", "b", "", "a", "a"))

    def test_e05(self):
        self.assertEqual(classes(self.lib), [("ab", 2), ("abab", 1)])
        self.assertEqual(class_of(self.lib, "b"), (0, 1))
        self.assertEqual(grown(self.lib, "ba"), "abab")
        self.assertEqual(least_pieces(self.lib, 0), [(0, 1), (1, 2)])
        self.assertEqual(least_pieces(self.lib, 1), [(1, 3)])

    def test_e06(self):
        self.assertEqual(longest_repeat(self.lib), "ab")
        self.assertEqual(alone(self.lib), ["ba"])
        self.assertEqual(lacking(self.lib, "ab"), ["aa", "baba", "bb"])
        self.assertEqual(periods("abab"), (2, 4))
        self.assertEqual(runs("abab"), [(0, 4, 2)])
        self.assertEqual(fewest_phrases("abab"), 3)

    def test_e07(self):
        pattern = (("sign", "a"), ("any",), ("gap", 0, 2), ("lot", "ab"))
        self.assertEqual(pattern_text(pattern), "a?{0,2}[ab]")
        self.assertEqual(fits(self.lib, (("sign", "a"), ("any",))), ((0, 0, 2), (0, 2, 2)))

    def test_e08(self):
        self.assertEqual(record("ab"), "2:ab")
        self.assertEqual(edit_text(("put", 0, 1, "x")), "put 0 1 x")
        self.assertEqual(asked(self.lib, "count ab"), "2")


if __name__ == "__main__":
    unittest.main()
