"""9.3: fits of patterns, against dealing out all stretches one by one."""

import random
import unittest
from functools import lru_cache

from everypiece.errors import NoPattern, TooMany
from everypiece.libraries import Library
from everypiece.patterns import apart_fits, fits, fitting_pieces, is_fit, longest_fits, read_pattern
from helper import error_of, libraries, odd_things, random_library, random_pattern, tiny_libraries

FUNCTIONS = (fits, fitting_pieces, longest_fits, apart_fits)
A = (("sign", "a"),)


@lru_cache(maxsize=None)
def dealt(signs, parts):
    """Whether all signs can be dealt to the parts, in order."""
    if not parts:
        return not signs
    word = parts[0][0]
    if word == "gap":
        return any(dealt(signs[many:], parts[1:]) for many in range(parts[0][1], min(parts[0][2], len(signs)) + 1))
    return bool(signs) and (word == "any" or signs[0] in parts[0][1]) and dealt(signs[1:], parts[1:])


def plain_fits(library, pattern):
    return tuple((text, at, many) for text, signs in enumerate(library.texts) for at in range(len(signs))
                 for many in range(1, len(signs) - at + 1) if dealt(signs[at:at + many], pattern))


def piece_at(library, fit):
    text, at, many = fit
    return library.texts[text][at:at + many]


def lots_apart(found):
    """All tuples of fits, ascending, no two of which have a place in common."""
    lots = [()]
    for fit in found:
        lots += [lot + (fit,) for lot in lots
                 if not lot or lot[-1][0] < fit[0] or lot[-1][1] + lot[-1][2] <= fit[1]]
    return lots


def plain_apart(found):
    """Of the greatest of these lots that which the point tells."""
    lots = lots_apart(found)
    most = max(map(len, lots))
    # The first one ends as early as can be, and is the shortest there, then the next one, and so on.
    return min([lot for lot in lots if len(lot) == most],
               key=lambda lot: [(text, at + many, many) for text, at, many in lot])


class FitsTest(unittest.TestCase):

    def check(self, library, pattern):
        found = plain_fits(library, pattern)
        self.assertEqual(fits(library, pattern), found)
        self.assertEqual(fitting_pieces(library, pattern), tuple(sorted({piece_at(library, fit) for fit in found})))
        longest = {fit[:2]: fit for fit in found}
        self.assertEqual(longest_fits(library, pattern), tuple(longest.values()))
        if len(found) < 14:
            self.assertEqual(apart_fits(library, pattern), plain_apart(found))
        return found

    def test_by_hand(self):
        for texts, text, found in (
                ((), "a", ()), (("",), "?", ()), (("",) * 8, "?", ()), (("a",), "a", ((0, 0, 1),)), (("a",), "b", ()),
                (("a",), "??", ()), (("ab",), "a{0,0}b", ((0, 0, 2),)), (("axb",), "a{0,0}b", ()),
                (("axb",), "a{1,1}b", ((0, 0, 3),)), (("axbb",), "a{0,2}b", ((0, 0, 3), (0, 0, 4))),
                (("ab", "ab"), "[ab]", ((0, 0, 1), (0, 1, 1), (1, 0, 1), (1, 1, 1))),
                (("a?[b",), "\\?\\[", ((0, 1, 2),)), (("a" + "x" * 20 + "b",), "a{20,20}b", ((0, 0, 22),)),
                (("a" + "x" * 21 + "b",), "a{0,20}b", ()), (("a", "b"), "ab", ())):
            self.assertEqual(self.check(Library(texts), read_pattern(text)), found)

    def test_small_libraries(self):
        chance = random.Random(95)
        for library in tiny_libraries():
            for _ in range(8):
                self.check(library, random_pattern(chance, "ab", chance.choice([1, 2, 3, 4, 5]), (0, 0, 1, 2, 20)))
        for _ in range(150):
            library = random_library(chance, 25)
            signs = "".join(library.texts) or "a"
            self.check(library, random_pattern(chance, signs, chance.choice([1, 2, 3, 5, 7])))

    def test_is_fit(self):
        chance = random.Random(96)
        for library in tiny_libraries()[::2]:
            pattern = random_pattern(chance, "ab", chance.choice([1, 2, 3]), (0, 1))
            found = plain_fits(library, pattern)
            for text in range(-1, len(library.texts) + 1):
                for at in range(-1, 8):
                    for many in range(-1, 8):
                        thing = (text, at, many)
                        self.assertIs(is_fit(library, pattern, thing), thing in found)
            for fit in found:
                self.assertIs(is_fit(library, pattern, fit), True)
                for thing in (list(fit), fit + (0,), fit[:2], [fit], (fit,), fit[:2] + (10 ** 19,),
                              (10 ** 19,) + fit[1:], (fit[0], 10 ** 19, fit[2])):
                    self.assertIs(is_fit(library, pattern, thing), False)

    def test_flags_are_no_parts_of_a_fit(self):
        library = Library(("bab", "bab"))
        self.assertIs(is_fit(library, A, (0, 1, 1)), True)
        for thing in ((False, 1, 1), (0, True, 1), (0, 1, True), (0, 1.0, 1), ("0", 1, 1), (None, 1, 1)):
            self.assertIs(is_fit(library, A, thing), False)

    def test_apart(self):
        for texts, text, found in (
                (("aaaa",), "aa", ((0, 0, 2), (0, 2, 2))), (("aaaaa",), "aa", ((0, 0, 2), (0, 2, 2))),
                (("abab",), "a{0,2}b", ((0, 0, 2), (0, 2, 2))), (("aab",), "a{0,20}b", ((0, 1, 2),)),
                (("aab", "b", "ab"), "a{0,20}b", ((0, 1, 2), (2, 0, 2))), (("",), "a", ()),
                (("aabab", "a"), "a?", ((0, 0, 2), (0, 3, 2)))):
            self.assertEqual(apart_fits(Library(texts), read_pattern(text)), found)

    def test_apart_in_full_libraries(self):
        chance = random.Random(97)
        for library in libraries()[16:] + [random_library(chance, 2000) for _ in range(6)]:
            signs = "".join(library.texts)[:9] or "a"
            pattern = random_pattern(chance, signs, chance.choice([1, 2, 3]))
            try:
                found = fits(library, pattern)
            except TooMany:
                continue
            self.assertTrue(all(is_fit(library, pattern, fit) for fit in found[::max(1, len(found) // 50)]))
            apart = apart_fits(library, pattern)
            # Each one is the one with the least end, the shortest there, behind the one ahead of it.
            rest, right = list(found), []
            while rest:
                right.append(min(rest, key=lambda fit: (fit[0], fit[1] + fit[2], fit[2])))
                end = (right[-1][0], right[-1][1] + right[-1][2])
                rest = [fit for fit in rest if fit[:2] >= end]
            self.assertEqual(apart, tuple(right))


class BoundsTest(unittest.TestCase):

    def test_just_so_many_fits_and_more(self):
        pattern = read_pattern("a{0,19}a")
        full = ("a" * 500, "a" * 521)
        self.assertEqual(len(fits(Library(full), pattern)), 20000)
        self.assertEqual(fitting_pieces(Library(full), pattern), tuple("a" * many for many in range(2, 22)))
        more = Library(full + ("aa",))
        for function in (fits, fitting_pieces):
            error = error_of(self, function, more, pattern)
            self.assertEqual((type(error), vars(error)), (TooMany, {"most": 20000}))
            self.assertIs(type(error_of(self, function, more, pattern + (None,))), NoPattern)
            self.assertIs(type(error_of(self, function, Library(("a" * 2000,)), pattern)), TooMany)
        self.assertEqual(len(longest_fits(more, pattern)), 1020)
        self.assertEqual(longest_fits(more, pattern)[0], (0, 0, 21))
        self.assertEqual(len(apart_fits(more, pattern)), 511)
        self.assertIs(is_fit(more, pattern, (2, 0, 2)), True)
        self.assertEqual(len(fits(Library(full + ("a",)), pattern)), 20000)

    def test_the_longest_patterns(self):
        library = Library(("a" * 400, "ab" * 100))
        self.assertEqual(len(fits(library, A * 30)), 371)
        self.assertEqual(fits(library, (("sign", "a"), ("sign", "b")) * 15)[0], (1, 0, 30))
        widest = (("sign", "a"), ("gap", 20, 20)) * 14 + (("sign", "a"), ("lot", "ab"))
        self.assertEqual(fits(library, widest)[-1], (0, 400 - 296, 296))
        wide = (("any",), ("gap", 0, 20)) * 14 + (("any",), ("any",))
        self.assertIs(type(error_of(self, fits, library, wide)), TooMany)
        self.assertEqual(longest_fits(library, wide)[0], (0, 0, 296))
        self.assertEqual(apart_fits(library, wide)[:2], ((0, 0, 16), (0, 16, 16)))
        self.assertEqual(fits(Library(("a" * 15 + "b",)), wide), ((0, 0, 16),))
        for function in FUNCTIONS:
            self.assertIs(type(error_of(self, function, library, A * 31)), NoPattern)

    def test_odd_things(self):
        library = Library(("abab", ""))
        for thing in odd_things():
            for function in FUNCTIONS:
                self.assertIs(type(error_of(self, function, library, thing)), NoPattern)
                self.assertIs(type(error_of(self, function, library, A + (thing,))), NoPattern)
            self.assertIs(type(error_of(self, is_fit, library, thing, (0, 0, 1))), NoPattern)
            self.assertIs(type(error_of(self, is_fit, library, (thing,), thing)), NoPattern)
            self.assertIs(is_fit(library, A, thing), False)
            for part in range(3):
                fit = (0, 0, 1)[:part] + (thing,) + (0, 0, 1)[part + 1:]
                self.assertIs(is_fit(library, A, fit), type(thing) is int and fit == (0, 0, 1))


if __name__ == "__main__":
    unittest.main()
