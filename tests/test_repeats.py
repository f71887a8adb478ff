"""8.1: repeats, pieces that stand alone, and lacking words."""

import random
import unittest
from itertools import product

from everypiece.asks import count
from everypiece.errors import NoNumber, NoPlace, NoSigns
from everypiece.libraries import Library, size
from everypiece.repeats import alone, common_longest, greatest_repeats, lacking, least_alone, longest_repeat
from helper import (by_length, error_of, libraries, nested, odd_things, pieces_of, place_list, places_of,
                    signs_from, tiny_libraries)

WITHOUT = [Library(()), Library(("",)), Library(("",) * 8)]
FEW = ("", "a", "b", "ab", "abc", "bc", "c", "ax", "xyz", "abcdefgh", " ", " ~", "~")


def many_places(library):
    """A dict from each piece to how many places it has."""
    return {piece: len(places_of(library, piece)) for piece in pieces_of(library)}


def parts_of(word):
    """All words within a word, unlike it."""
    return {word[low:high] for low in range(len(word)) for high in range(low + 1, len(word) + 1)} - {word}


def full_libraries():
    chance = random.Random(121)
    return [library for library in libraries() if size(library) > 900] + [
        Library(("".join(chance.choice("abcdefgh") for _ in range(2000)),)), Library(("".join(chance.choice("abcd") for _ in range(1500)), "abcd" * 125))]


class RepeatsTest(unittest.TestCase):

    def test_by_hand(self):
        for texts, longest, greatest in (
                ((), None, []), (("",), None, []), (("a",), None, []), (("ab",), None, []), (("aa",), "a", ["a"]),
                (("ab", "ab"), "ab", ["ab"]), (("a", "a", "b", "b"), "a", ["a", "b"]), (("aaaa",), "aaa", ["aaa"]),
                (("abcab", "cb"), "ab", ["ab", "c"]), (("xabyabz", "ab"), "ab", ["ab"]),
                (("bcabc", "ab"), "ab", ["ab", "bc"]), (("abc",) * 8, "abc", ["abc"])):
            self.assertEqual(longest_repeat(Library(texts)), longest, texts)
            self.assertEqual(greatest_repeats(Library(texts)), greatest, texts)

    def test_against_pieces_taken_one_by_one(self):
        for library in tiny_libraries():
            repeats = [piece for piece, many in many_places(library).items() if many > 1]
            most = max(map(len, repeats), default=0)
            right = min([piece for piece in repeats if len(piece) == most], default=None)
            self.assertEqual(longest_repeat(library), right)
            greatest = [piece for piece in repeats if not any(piece in other and piece != other for other in repeats)]
            self.assertEqual(greatest_repeats(library), greatest)
            self.assertIs(type(greatest_repeats(library)), list)

    def test_full_libraries(self):
        self.assertEqual(longest_repeat(Library(("a" * 2000,))), "a" * 1999)
        self.assertEqual(greatest_repeats(Library(("a" * 2000,))), ["a" * 1999])
        self.assertEqual(longest_repeat(Library(("ab" * 1000,))), "ab" * 999)
        self.assertEqual(greatest_repeats(Library(("c" * 250,) * 8)), ["c" * 250])
        for library in full_libraries():
            longest = longest_repeat(library)
            self.assertGreater(count(library, longest), 1)
            found = greatest_repeats(library)
            self.assertEqual(max(by_length(found), key=len), longest)
            self.assertEqual(found, sorted(set(found)))
            for piece in found[::max(1, len(found) // 40)]:
                places = places_of(library, piece)
                self.assertGreater(len(places), 1)
                for text, at in places:
                    signs = library.texts[text]
                    if at:
                        self.assertEqual(len(places_of(library, signs[at - 1] + piece)), 1)
                    if at + len(piece) < len(signs):
                        self.assertEqual(len(places_of(library, piece + signs[at + len(piece)])), 1)


class CommonTest(unittest.TestCase):

    def test_by_hand(self):
        library = Library(("abcx", "xabc", "", "bcd", "abx"))
        self.assertEqual([common_longest(library, many) for many in range(1, 9)],
                         ["abcx", "abc", "ab", "b", None, None, None, None])
        self.assertEqual([common_longest(Library(("c" * 250,) * 8), many) for many in range(1, 9)], ["c" * 250] * 8)
        self.assertEqual(common_longest(Library(("b", "a")), 1), "a")
        self.assertIsNone(common_longest(Library(("a" * 2000,)), 2))
        self.assertEqual(common_longest(Library(("a" * 2000,)), 1), "a" * 2000)
        self.assertEqual(common_longest(Library(("ab" * 500, "ba" * 500)), 2), "ab" * 499 + "a")

    def test_against_pieces_taken_one_by_one(self):
        for library in tiny_libraries():
            texts = {piece: sum(piece in text for text in library.texts) for piece in pieces_of(library)}
            for many in range(1, 9):
                right = by_length([piece for piece in texts if texts[piece] >= many])
                most = len(right[-1]) if right else 0
                self.assertEqual(common_longest(library, many),
                                 min([piece for piece in right if len(piece) == most], default=None))

    def test_full_libraries(self):
        for library in full_libraries():
            for many in (1, 2, len(library.texts), 8):
                found = common_longest(library, many)
                if found is None:
                    self.assertTrue(all(sum(sign in text for text in library.texts) < many
                                        for sign in set("".join(library.texts))))
                else:
                    self.assertGreaterEqual(sum(found in text for text in library.texts), many)

    def test_no_number(self):
        for library in WITHOUT + [Library(("abab", "b"))]:
            for thing in odd_things() + [0, 9, -1, True, False, "1", None, (1,), [1], 10 ** 19]:
                if type(thing) is not int or not 1 <= thing <= 8:
                    self.assertIs(type(error_of(self, common_longest, library, thing)), NoNumber)


class AloneTest(unittest.TestCase):

    def test_by_hand(self):
        for texts, right in (((), []), (("",), []), (("a",), ["a"]), (("ab", "ab"), []), (("aaa",), ["aaa"]),
                             (("abc",), ["a", "b", "c"]), (("ab", "b"), ["a"]), (("xab", "yab"), ["x", "y"])):
            self.assertEqual(alone(Library(texts)), right)
        library = Library(("abab", "c"))
        self.assertEqual([least_alone(library, place) for place in place_list(library)],
                         ["aba", "ba", None, None, "c"])

    def test_against_pieces_taken_one_by_one(self):
        for library in tiny_libraries():
            many = many_places(library)
            self.assertEqual(alone(library), [piece for piece in many if many[piece] == 1
                                              and all(many[part] > 1 for part in parts_of(piece))])
            self.assertIs(type(alone(library)), list)
            for place in place_list(library):
                signs = signs_from(library, place)
                single = [signs[:long] for long in range(1, len(signs) + 1) if many[signs[:long]] == 1]
                self.assertEqual(least_alone(library, place), single[0] if single else None)

    def test_full_libraries(self):
        self.assertEqual(alone(Library(("a" * 2000,))), ["a" * 2000])
        self.assertEqual(alone(Library(("ab" * 1000,))), ["ba" * 999])
        self.assertEqual(alone(Library(("c" * 250,) * 8)), [])
        chance = random.Random(122)
        for library in full_libraries():
            for piece in alone(library)[::200]:
                self.assertEqual(len(places_of(library, piece)), 1)
                for part in (piece[1:], piece[:-1]):
                    self.assertTrue(part == "" or len(places_of(library, part)) > 1)
            for place in chance.sample(place_list(library), 12):
                piece = least_alone(library, place)
                signs = signs_from(library, place)
                if piece is None:
                    self.assertGreater(len(places_of(library, signs)), 1)
                else:
                    self.assertEqual(places_of(library, piece), [place])
                    self.assertTrue(len(piece) == 1 or len(places_of(library, piece[:-1])) > 1)

    def test_no_place(self):
        for library in WITHOUT + [Library(("abab", "", "ba"))]:
            for thing in odd_things() + [(0, 4), (1, 0), (2, 2), (3, 0), (-1, 0), (True, 0), (0, False), [0, 0], (0,)]:
                self.assertIs(type(error_of(self, least_alone, library, thing)), NoPlace)


class LackingTest(unittest.TestCase):

    def plain_lacking(self, library, signs):
        """The words that are no pieces, while all within them are: of a piece, or nothing, and a sign more."""
        pieces = set(pieces_of(library))
        words = {piece + sign for piece in pieces | {""} for sign in signs}
        return sorted(word for word in words - pieces if set(word) <= set(signs) and parts_of(word) <= pieces)

    def test_by_hand(self):
        for texts, signs, right in (
                ((), "ab", ["a", "b"]), (("",), "", []), ((), "", []), (("a",), "a", ["aa"]), (("a", "b"), "ab",
                ["aa", "ab", "ba", "bb"]), (("ab",), "ab", ["aa", "ba", "bb"]), (("aaa",), "ab", ["aaaa", "b"]),
                (("abab",), "a", ["aa"]), (("abab",), "c", ["c"]), (("axb",), "ab", ["aa", "ab", "ba", "bb"]),
                (("aab", "baa"), "ab", ["aaa", "aba", "baab", "bab", "bb"])):
            self.assertEqual(lacking(Library(texts), signs), right, texts)

    def test_against_pieces_taken_one_by_one(self):
        for library in tiny_libraries():
            standing = "".join(sorted(set("".join(library.texts))))
            for signs in {"", "ab", "abc", standing[:8], standing[-2:], standing[:1], "~"}:
                self.assertEqual(lacking(library, signs), self.plain_lacking(library, signs), (library.texts, signs))
                self.assertIs(type(lacking(library, signs)), list)

    def test_against_all_words(self):
        for library in tiny_libraries()[::11]:
            pieces = set(pieces_of(library))
            for signs in FEW[:7]:
                words = [word for many in range(1, 7) for word in map("".join, product(signs, repeat=many))]
                right = [word for word in words if word not in pieces and parts_of(word) <= pieces]
                self.assertEqual([word for word in lacking(library, signs) if len(word) < 7], sorted(right))

    def test_fact_of_lacking_words(self):
        for library in tiny_libraries()[::7]:
            pieces = set(pieces_of(library))
            for signs in ("a", "ab", "abc"):
                lacks = lacking(library, signs)
                for many in range(1, 6):
                    for word in map("".join, product(signs, repeat=many)):
                        self.assertIs(word in pieces, not any(lack in word for lack in lacks))

    def test_full_libraries(self):
        self.assertEqual(lacking(Library(("a" * 2000,)), "a"), ["a" * 2001])
        self.assertEqual(lacking(Library(("ab" * 1000,)), "ab"), ["aa", "ba" * 1000, "bb"])
        for library in full_libraries():
            for signs in ("ab", "abcd", "abcdefgh"):
                found = lacking(library, signs)
                self.assertEqual(found, sorted(set(found)))
                for word in found[::max(1, len(found) // 40)]:
                    self.assertLessEqual(set(word), set(signs))
                    self.assertFalse(any(word in text for text in library.texts))
                    for part in (word[1:], word[:-1]):
                        self.assertTrue(part == "" or any(part in text for text in library.texts))

    def test_no_signs(self):
        for library in WITHOUT + [Library(("abab", "b"))]:
            for thing in odd_things() + ["ba", "aa", "abcdefghi", "aab", "abb", "\n", "a\n", b"ab", ["a", "b"], ("a", "b"),
                                         None, 0, "\x7f", nested(40, tuple)]:
                if not (isinstance(thing, str) and len(thing) < 9 and list(thing) == sorted(set(thing))
                        and all(" " <= sign <= "~" for sign in thing)):
                    self.assertIs(type(error_of(self, lacking, library, thing)), NoSigns, thing)
            for signs in FEW:
                lacking(library, signs)


if __name__ == "__main__":
    unittest.main()
