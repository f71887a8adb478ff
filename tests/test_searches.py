"""9.4: searches by the order of endings."""

import random
import unittest

from everypiece.endings import endings
from everypiece.errors import NoGaps, NoPattern
from everypiece.libraries import Library
from everypiece.patterns import fits, read_pattern
from everypiece.searches import searched
from helper import error_of, libraries, odd_things, pieces_of, plain_order, plain_span, random_library, random_pattern, signs_from, tiny_libraries


def is_dealt(word, pattern):
    """Whether the signs of a word are such as a pattern without gaps has them, one to each part."""
    return len(word) == len(pattern) and all(part[0] == "any" or sign in part[1] for sign, part in zip(word, pattern))


def plain_searched(library, pattern):
    pieces = pieces_of(library)
    found = [plain_span(library, piece) for piece in pieces if is_dealt(piece, pattern)]
    many = len([piece for piece in pieces if is_dealt(piece, pattern[:len(piece)])])
    return (found, many + 1)


class SearchedTest(unittest.TestCase):

    def test_by_hand(self):
        for texts, text, found in (
                ((), "a", ([], 1)), (("",) * 8, "?", ([], 1)), (("a",), "a", ([(0, 1)], 2)), (("a",), "b", ([], 1)),
                (("abab",), "ab", ([(0, 2)], 3)), (("abab",), "??", ([(0, 2), (3, 4)], 5)),
                (("abab",), "?b", ([(0, 2)], 4)), (("abab",), "[bx]?", ([(3, 4)], 3)), (("abab",), "ac", ([], 2)),
                (("a" * 9,), "aa", ([(1, 9)], 3)), (("ab", "ab"), "[ab]", ([(0, 2), (2, 4)], 3))):
            told = searched(Library(texts), read_pattern(text))
            self.assertEqual(told, found, text)
            self.assertIs(type(told), tuple)
            self.assertIs(type(told[0]), list)

    def test_against_plain_search(self):
        chance = random.Random(98)
        for library in tiny_libraries():
            for many in (1, 2, 3, 5):
                pattern = random_pattern(chance, "ab", many, ())
                self.assertEqual(searched(library, pattern), plain_searched(library, pattern))
        for _ in range(60):
            library = random_library(chance, 25)
            pattern = random_pattern(chance, "".join(library.texts) or "a", chance.choice([1, 2, 4]), ())
            self.assertEqual(searched(library, pattern), plain_searched(library, pattern))

    def test_the_fact_of_searches(self):
        chance = random.Random(99)
        for library in libraries() + [random_library(chance, 2000) for _ in range(5)]:
            signs = "".join(library.texts)[:30] or "a"
            order = plain_order(library)
            self.assertEqual(order, endings(library))
            for many in (1, 2, 29, 30):
                pattern = random_pattern(chance, signs, many, ())
                found, looked = searched(library, pattern)
                places = [place for low, high in found for place in order[low:high]]
                self.assertEqual(sorted(places), [fit[:2] for fit in fits(library, pattern)])
                self.assertEqual(found, sorted(found))
                begun = {signs_from(library, place)[:length] for place in order for length in range(1, many + 1)}
                begun = [word for word in begun if is_dealt(word, pattern[:len(word)])]
                self.assertEqual(looked, len(begun) + 1)
                self.assertLess(looked, sum(1 for place in order for length in range(1, many + 1)) + 2)
                plain = tuple(("sign", sign) for sign in (signs * 30)[:many])
                self.assertLessEqual(searched(library, plain)[1], many + 1)

    def test_errors_in_order(self):
        library = Library(("abab", ""))
        gap = ("gap", 0, 1)
        for thing in odd_things() + [(), (("any",),) * 31, (gap,), (("any",), gap, gap, ("any",)), (("any",), gap)]:
            self.assertIs(type(error_of(self, searched, library, thing)), NoPattern)
            self.assertIs(type(error_of(self, searched, library, (("any",), gap, thing))), NoPattern)
        for text in ("a{0,0}b", "a{0,20}b", "a?{1,1}?{1,1}?"):
            self.assertIs(type(error_of(self, searched, library, read_pattern(text))), NoGaps)
            self.assertIs(type(error_of(self, searched, Library(()), read_pattern(text))), NoGaps)


if __name__ == "__main__":
    unittest.main()
