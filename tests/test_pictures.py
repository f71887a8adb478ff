"""11.2: pictures, against plain drawing."""

import random
import unittest

from everypiece.blocks import blocks, levels
from everypiece.errors import NoEdit, NoPattern, NoText, TooMany
from everypiece.libraries import Library
from everypiece.patterns import fits, read_pattern
from everypiece.pictures import drawn_blocks, drawn_edit, drawn_fits
from helper import (edits_of, error_of, libraries, odd_things, plain_edit, random_edit, random_library, random_pattern,
                    random_text, tiny_libraries)


def rows_of(test, picture):
    """The rows of a picture, each closed by a line feed."""
    test.assertIs(type(picture), str)
    test.assertTrue(picture == "" or picture.endswith("\n"))
    return picture.split("\n")[:-1]


class BlocksTest(unittest.TestCase):

    def test_by_hand(self):
        for text, picture in (("", "\n"), ("a", "a\n"), ("ab", "ab\n|.\n"), ("abab", "abab\n|.|.\n|...\n"),
                              ("aaa", "aaa\n|..\n"), ("aab", "aab\n|.|\n|..\n"), (" |.", " |.\n|..\n")):
            self.assertEqual(drawn_blocks(text), picture)

    def test_against_plain_drawing(self):
        chance = random.Random(122)
        for text in ["a" * 2000, "ab" * 1000] + [random_text(chance, chance.choice([9, 60, 2000])) for _ in range(80)]:
            right = [text]
            for level in range(1, len(levels(text))):
                right.append("".join("|" + "." * (len(name) - 1) for name in blocks(text, level)))
            self.assertEqual(rows_of(self, drawn_blocks(text)), right)
            # The fact of pictures: as many rows as told, all as long.
            self.assertEqual(len(right), max(1, len(levels(text))))
            self.assertEqual({len(row) for row in right}, {len(text)})

    def test_no_text(self):
        for thing in odd_things() + ["a" * 2001, "a\n", ("a",), b"a"]:
            if not (isinstance(thing, str) and (thing == "" or thing.isprintable()) and len(thing) <= 2000):
                self.assertIs(type(error_of(self, drawn_blocks, thing)), NoText)


class FitsTest(unittest.TestCase):

    def plain(self, library, pattern):
        rows = []
        for number, text in enumerate(library.texts):
            found = [fit for fit in fits(library, pattern) if fit[0] == number]
            begins = {at for _, at, _ in found}
            others = {place for _, at, many in found for place in range(at, at + many)}
            rows += [text, "".join("^" if at in begins else "-" if at in others else "." for at in range(len(text)))]
        return rows

    def test_by_hand(self):
        for texts, text, picture in (
                ((), "a", ""), (("",), "a", "\n\n"), (("abab", ""), "ab", "abab\n^-^-\n\n\n"), (("aba",), "a", "aba\n^.^\n"),
                (("xaby", "b"), "a{0,1}y", "xaby\n.^--\nb\n.\n"), (("aaa",), "aa", "aaa\n^^-\n"), (("ab",), "c", "ab\n..\n"),
                (("axbxb",), "a{0,3}b", "axbxb\n^----\n")):
            self.assertEqual(drawn_fits(Library(texts), read_pattern(text)), picture)

    def test_against_plain_drawing(self):
        chance = random.Random(123)
        for library in tiny_libraries() + libraries()[:-4] + [random_library(chance, 200) for _ in range(20)]:
            signs = "".join(library.texts)[:9] or "a"
            for many in (1, 2, 3, 5):
                pattern = random_pattern(chance, signs, many)
                try:
                    right = self.plain(library, pattern)
                except TooMany:
                    continue
                rows = rows_of(self, drawn_fits(library, pattern))
                self.assertEqual(rows, right)
                self.assertEqual(len(rows), 2 * len(library.texts))
                self.assertTrue(all(len(one) == len(other) for one, other in zip(rows[::2], rows[1::2])))

    def test_more_fits_than_can_be_told(self):
        library = Library(("a" * 1990 + "b" * 9,))
        pattern = read_pattern("a{0,20}a")
        self.assertIs(type(error_of(self, fits, library, pattern)), TooMany)
        self.assertEqual(drawn_fits(library, pattern), library.texts[0] + "\n" + "^" * 1989 + "-" + "." * 9 + "\n")

    def test_no_pattern(self):
        for thing in odd_things() + [(), "a", read_pattern("a") * 31, (("gap", 0, 1),)]:
            self.assertIs(type(error_of(self, drawn_fits, Library(("ab",)), thing)), NoPattern)


class EditTest(unittest.TestCase):

    def plain(self, library, edit):
        rows = []
        for number, row in enumerate(plain_edit(library, edit)):
            rows.append("".join(sign for sign, _ in row))
            rows.append("".join("+" if label is None else "=" if label == (number, at) else ">"
                                for at, (_, label) in enumerate(row)))
        return rows

    def test_by_hand(self):
        library = Library(("abcd", "ef"))
        for edit, picture in (
                (("put", 0, 1, "xy"), "axybcd\n=++>>>\nef\n==\n"), (("cut", 0, 1, 2), "ad\n=>\nef\n==\n"),
                (("change", 0, 1, "bx"), "abxd\n=++=\nef\n==\n"), (("come", "g"), "abcd\n====\nef\n==\ng\n+\n"),
                (("come", ""), "abcd\n====\nef\n==\n\n\n"), (("split", 0, 3), "abc\n===\nef\n==\nd\n>\n"),
                (("join", 0, 1), "abcdef\n====>>\n\n\n"), (("join", 1, 0), "\n\nefabcd\n==>>>>\n"),
                (("move", 0, 0, 2, 1, 1), "cd\n>>\neabf\n=>>>\n"), (("move", 0, 1, 2, 0, 1), "abcd\n====\nef\n==\n")):
            self.assertEqual(drawn_edit(library, edit), picture, edit)
        self.assertEqual(drawn_edit(Library(("",)), ("go",)), "")
        self.assertEqual(drawn_edit(Library(("a", "")), ("go",)), "a\n=\n")

    def test_against_plain_drawing(self):
        chance = random.Random(124)
        for library in tiny_libraries()[::2] + libraries() + [random_library(chance, 200) for _ in range(20)]:
            edits = edits_of(library)
            for edit in chance.sample(edits, min(len(edits), 6)) + [random_edit(chance, library)]:
                rows = rows_of(self, drawn_edit(library, edit))
                self.assertEqual(rows, self.plain(library, edit))
                self.assertTrue(all(len(one) == len(other) for one, other in zip(rows[::2], rows[1::2])))

    def test_no_edit(self):
        for thing in odd_things() + [("put", 0, 3, "x"), ("go",), "go", ("come", "a" * 1999), ["come", "a"]]:
            self.assertIs(type(error_of(self, drawn_edit, Library(("ab",)), thing)), NoEdit)


if __name__ == "__main__":
    unittest.main()
