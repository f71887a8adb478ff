"""11.1: what lines ask, against the functions that they stand for."""

import random
import re
import unittest

from everypiece.asks import (all_pieces, count, first_place, gap, last_place, many_long, next_place, number_of,
                             piece_numbered, places, span, texts_with)
from everypiece.errors import BadPattern, NoAsk, NoNumber, NoPlace, PieceError, TooMany
from everypiece.libraries import Library
from everypiece.patterns import fits, fitting_pieces, read_pattern
from everypiece.repeats import common_longest, greatest_repeats, least_alone, longest_repeat
from everypiece.searches import near, nearest
from everypiece.tongues import asked
from helper import error_of, libraries, odd_things, pieces_of, random_library, tiny_libraries

LIBRARY = Library(("abab", "", "a b"))
NUMBER = "(?:0|[1-9][0-9]{0,8})"
FORM = re.compile("(?:count|first|last|where|texts|span|gap|number|fits|holes|nearest) [ -~]+|pieces|repeats?"
                  f"|(?:piece|long|common) {NUMBER}|alone {NUMBER} {NUMBER}|near {NUMBER} [ -~]+"
                  f"|next {NUMBER} {NUMBER} [ -~]+")


def place_told(place):
    return f"{place[0]}:{place[1]}"


def plain(told):
    """A number, a piece or None as it is told."""
    return "none" if told is None else str(told)


def spot(told):
    """A place or None as it is told."""
    return "none" if told is None else place_told(told)


def row(told):
    """Several numbers or places as they are told."""
    return " ".join(place_told(part) if isinstance(part, tuple) else str(part) for part in told) or "none"


def pair(told):
    """A gap as it is told."""
    return "none" if told is None else " ".join("-" if place is None else place_told(place) for place in told)


def triple(told):
    return "none" if told is None else f"{told[0]} {told[1]}:{told[2]}"


def many(told):
    return str(len(told))


# For each form what it stands for, as a line, a function of a library, and how its result is told.
def asks_of(word, numbers, text):
    """The triples (line, function, telling) of all forms, with a word, a triple of numbers, and a pattern's text."""
    one, two, three = numbers
    return [
        (f"count {word}", lambda library: count(library, word), plain),
        (f"first {word}", lambda library: first_place(library, word), spot),
        (f"last {word}", lambda library: last_place(library, word), spot),
        (f"next {one} {two} {word}", lambda library: next_place(library, word, (one, two)), spot),
        (f"where {word}", lambda library: places(library, word), row),
        (f"texts {word}", lambda library: texts_with(library, word), row),
        (f"span {word}", lambda library: span(library, word), row),
        (f"gap {word}", lambda library: gap(library, word), pair),
        (f"number {word}", lambda library: number_of(library, word), plain),
        ("pieces", all_pieces, plain),
        (f"piece {three}", lambda library: piece_numbered(library, three), plain),
        (f"long {three}", lambda library: many_long(library, three), plain),
        ("repeat", longest_repeat, plain),
        ("repeats", greatest_repeats, many),
        (f"common {two}", lambda library: common_longest(library, two), plain),
        (f"alone {one} {two}", lambda library: least_alone(library, (one, two)), plain),
        (f"fits {text}", lambda library: fits(library, read_pattern(text)), many),
        (f"holes {text}", lambda library: fitting_pieces(library, read_pattern(text)), many),
        (f"near {two} {word}", lambda library: near(library, word, two), many),
        (f"nearest {word}", lambda library: nearest(library, word), triple),
    ]


def outcome(call):
    """What a call tells, or the error that it raises."""
    try:
        return call()
    except PieceError as error:
        return (type(error), vars(error))


class AskedTest(unittest.TestCase):

    def test_by_hand(self):
        for line, told in (
                ("count ab", "2"), ("count zz", "0"), ("count a b", "1"), ("count  b", "1"), ("count  ", "1"),
                ("first ab", "0:0"), ("last ab", "0:2"), ("last b", "2:2"), ("first zz", "none"), ("last zz", "none"),
                ("next 0 0 ab", "0:2"), ("next 0 2 ab", "none"), ("next 0 3 b", "2:2"), ("next 0 0  b", "2:1"),
                ("where ab", "0:0 0:2"), ("where zz", "none"), ("where  ", "2:1"), ("texts b", "0 2"), ("texts zz", "none"),
                ("texts ba", "0"), ("span ab", "2 4"), ("span zz", "7 7"), ("span  ", "0 1"), ("gap ab", "none"),
                ("gap !", "2:1 2:0"), ("gap zz", "0:1 -"), ("gap   ", "- 2:1"), ("number  ", "0"), ("number zz", "none"),
                ("number ab", "5"), ("pieces", "11"), ("piece 0", " "), ("piece 5", "ab"), ("long 4", "1"), ("long 2000", "0"),
                ("repeat", "ab"), ("repeats", "1"), ("common 1", "abab"), ("common 2", "a"), ("common 3", "none"),
                ("alone 0 0", "aba"), ("alone 2 2", "none"), ("fits a?", "3"), ("holes a?", "2"), ("fits a{0,2}b", "4"),
                ("holes a{0,2}b", "3"), ("fits zz", "0"), ("near 0 ab", "2"), ("near 1 bb", "4"), ("near 3 abab", "1"),
                ("nearest bb", "1 0:0"), ("nearest a b", "0 2:0"), ("nearest ababa", "none")):
            self.assertEqual(asked(LIBRARY, line), told, line)
        for line, told in (
                ("pieces", "0"), ("repeat", "none"), ("repeats", "0"), ("gap a", "- -"), ("span a", "0 0"),
                ("where a", "none"), ("nearest a", "none"), ("fits a", "0"), ("common 8", "none"), ("long 1", "0")):
            self.assertEqual(asked(Library(()), line), told, line)

    def test_against_the_functions(self):
        chance = random.Random(119)
        for library in tiny_libraries()[::2] + libraries()[:-4] + [random_library(chance, 60) for _ in range(20)]:
            some = "".join(library.texts) or "ab"
            at = chance.randrange(len(some))
            for word in (some[at:at + chance.randint(1, 4)], chance.choice(["ab", "b a", " ", "a  ", "~", "1 2"])):
                numbers = (chance.randint(0, 3), chance.randint(0, 4), chance.choice([0, 1, 2, 5, 2000, 2001, 999999999]))
                text = chance.choice(["a", "?", "a?", "[ab]{0,2}b", word, "\\", "a{", "?{0,20}?", " "])
                for line, function, telling in asks_of(word, numbers, text):
                    right = outcome(lambda: telling(function(library)))
                    self.assertEqual(outcome(lambda: asked(library, line)), right, line)
                    self.assertTrue(isinstance(right, (str, tuple)))

    def test_each_piece(self):
        for library in tiny_libraries()[:40]:
            pieces = pieces_of(library)
            for number, piece in enumerate(pieces):
                self.assertEqual(asked(library, f"piece {number}"), piece)
                self.assertEqual(asked(library, "number " + piece), str(number))
            self.assertIs(type(error_of(self, asked, library, f"piece {len(pieces)}")), NoNumber)

    def test_errors_of_the_functions(self):
        for line, kind in (
                ("next 1 0 a", NoPlace), ("next 9 9 a", NoPlace), ("alone 1 0", NoPlace), ("alone 999999999 0", NoPlace),
                ("piece 11", NoNumber), ("piece 999999999", NoNumber), ("long 0", NoNumber), ("long 2001", NoNumber),
                ("common 0", NoNumber), ("common 9", NoNumber), ("near 4 ab", NoNumber), ("near 999999999 a", NoNumber),
                ("fits a{", BadPattern), ("holes {", BadPattern), ("fits \\", BadPattern)):
            self.assertIs(type(error_of(self, asked, LIBRARY, line)), kind, line)
        self.assertEqual(error_of(self, asked, LIBRARY, "fits ab{0,1}").place, 7)
        self.assertEqual(error_of(self, asked, LIBRARY, "holes  [ba]").place, 3)
        full = Library(("a" * 2000,))
        for line in ("fits a{0,20}a", "holes a{0,20}a"):
            error = error_of(self, asked, full, line)
            self.assertEqual((type(error), vars(error)), (TooMany, {"most": 20000}))

    def test_no_asks(self):
        for line in ("", " ", "count", "count ", " count a", "Count a", "counts a", "first", "first ", "where ", "texts",
                     "span ", "gap ", "number ", "pieces ", "pieces a", "pieces 1", " pieces", "piece", "piece ", "piece a",
                     "piece -1", "piece +1", "piece 01", "piece 00", "piece 1 ", "piece  1", "piece 1 2", "piece 1_0",
                     "piece 1000000000", "piece 0000000001", "piece " + "9" * 5000, "long", "long 2.", "long 1234567890",
                     "repeat ", "repeat a", "repeats ", "common", "common 01", "alone", "alone 0", "alone 0 ", "alone 0 0 ",
                     "alone 0 0 0", "alone 00 0", "alone  0 0", "next 0 0", "next 0 0 ", "next 0 a", "next 0  0 a",
                     "next 00 0 a", "next 0 01 a", "next  0 0 a", "next a", "next 0 1000000000 a", "fits", "fits ", "holes",
                     "holes ", "near ab", "near 1", "near 1 ", "near 01 ab", "near  1 ab", "near -1 ab", "near 1234567890 a",
                     "nearest", "nearest ", "none", "help", "a\nb", "pieces\n", "\npieces", "piece 1\n", "count a\n",
                     "count \n", "fits \n", "count a\nb", "count\na"):
            self.assertIs(type(error_of(self, asked, LIBRARY, line)), NoAsk, line)
        for thing in odd_things() + [b"pieces", ["pieces"], ("count", "ab"), ("pieces",), 7, True]:
            self.assertIs(type(error_of(self, asked, LIBRARY, thing)), NoAsk)

    def test_numbers_of_nine_figures(self):
        self.assertIs(type(error_of(self, asked, LIBRARY, "piece 999999999")), NoNumber)
        self.assertIs(type(error_of(self, asked, LIBRARY, "piece 9999999999")), NoAsk)
        self.assertIs(type(error_of(self, asked, LIBRARY, "piece 099999999")), NoAsk)

    def test_spoiled_lines(self):
        chance = random.Random(120)
        seen = {True: 0, False: 0}
        for line, _, _ in asks_of("a b", (0, 1, 2), "a?"):
            for place in range(len(line) + 1):
                for other in (line[:place], line[:place] + line[place + 1:], line[:place] + " " + line[place:],
                              line[:place] + chance.choice("0a1") + line[place:], line[:place] + "\n" + line[place:]):
                    told = outcome(lambda: asked(LIBRARY, other))
                    self.assertEqual(told != (NoAsk, {}), bool(FORM.fullmatch(other)), other)
                    seen[told != (NoAsk, {})] += 1
        self.assertGreater(min(seen.values()), 200)


if __name__ == "__main__":
    unittest.main()
