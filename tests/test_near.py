"""9.5, 9.6: words with wrong signs, their holes and stretches."""

import random
import unittest
from itertools import combinations

from everypiece.errors import NoHoles, NoNumber, NoWord
from everypiece.libraries import Library
from everypiece.patterns import fits, is_pattern, read_pattern
from everypiece.searches import near, near_by_stretches, nearest, stretches, with_holes
from helper import error_of, libraries, odd_things, place_list, random_library, random_text, tiny_libraries

LIBRARY = Library(("abab", ""))


def places_with_room(library, word):
    return [(text, at) for text, at in place_list(library) if at + len(word) <= len(library.texts[text])]


def wrong_at(library, word, place):
    """The indexes of the wrong signs, counted sign by sign."""
    text, at = place
    return tuple(index for index in range(len(word)) if library.texts[text][at + index] != word[index])


def plain_near(library, word, most):
    rows = [(text, at, wrong_at(library, word, (text, at))) for text, at in places_with_room(library, word)]
    return tuple(row for row in rows if len(row[2]) <= most)


def plain_stretches(word, many):
    """Signs are dealt out one by one, to one stretch after the other."""
    sizes = [0] * many
    for index in range(len(word)):
        sizes[index % many] += 1
    return tuple((sum(sizes[:number]), word[sum(sizes[:number]):sum(sizes[:number + 1])]) for number in range(many))


def plain_looked_at(library, word, most):
    """The places at which one of most and 1 stretches stands just so."""
    if len(word) <= most:
        return places_with_room(library, word)
    return [(text, at) for text, at in places_with_room(library, word)
            if any(library.texts[text][at + begin:at + begin + len(signs)] == signs
                   for begin, signs in plain_stretches(word, most + 1))]


def words_for(chance, library):
    """Words that stand nearly in a library, and others."""
    signs = [text for text in library.texts if text] or ["ab"]
    found = ["a", "ab", "aab"]
    for _ in range(3):
        text = chance.choice(signs)
        at = chance.randrange(len(text))
        word = text[at:at + chance.choice([1, 2, 3, 4, 5, 8])]
        for _ in range(chance.randrange(4)):
            index = chance.randrange(len(word))
            word = word[:index] + chance.choice(chance.choice(signs)) + word[index + 1:]
        found.append(word)
    return found


class NearTest(unittest.TestCase):

    def check(self, library, word):
        for most in range(4):
            found = plain_near(library, word, most)
            self.assertEqual(near(library, word, most), found)
            looked_at = plain_looked_at(library, word, most)
            self.assertEqual(near_by_stretches(library, word, most), (found, len(looked_at)))
            # None is missed: each place that is near is looked at.
            self.assertTrue({row[:2] for row in found} <= set(looked_at))
        counted = [(len(wrong_at(library, word, place)),) + place for place in places_with_room(library, word)]
        self.assertEqual(nearest(library, word), min(counted, default=None))

    def test_by_hand(self):
        self.assertEqual(near(LIBRARY, "bb", 0), ())
        self.assertEqual(near(LIBRARY, "bb", 1), ((0, 0, (0,)), (0, 1, (1,)), (0, 2, (0,))))
        self.assertEqual(near(LIBRARY, "cc", 2), ((0, 0, (0, 1)), (0, 1, (0, 1)), (0, 2, (0, 1))))
        self.assertEqual(near(LIBRARY, "abab", 0), ((0, 0, ()),))
        self.assertEqual(near(LIBRARY, "ababa", 3), ())
        self.assertEqual(nearest(LIBRARY, "bb"), (1, 0, 0))
        self.assertEqual(nearest(LIBRARY, "ba"), (0, 0, 1))
        self.assertEqual(nearest(LIBRARY, "xyzx"), (4, 0, 0))
        self.assertIsNone(nearest(LIBRARY, "ababa"))
        self.assertIsNone(nearest(Library(()), "a"))
        self.assertEqual(near_by_stretches(LIBRARY, "ba", 1), (((0, 1, ()),), 1))
        self.assertEqual(near_by_stretches(LIBRARY, "bb", 1), (near(LIBRARY, "bb", 1), 3))
        self.assertEqual(near_by_stretches(LIBRARY, "bb", 2), (near(LIBRARY, "bb", 2), 3))
        self.assertEqual(near_by_stretches(LIBRARY, "bbx", 2), (((0, 0, (0, 2)), (0, 1, (1, 2))), 2))
        self.assertEqual(near_by_stretches(LIBRARY, "xyzx", 3), ((), 0))

    def test_small_libraries(self):
        chance = random.Random(100)
        for library in tiny_libraries():
            for word in words_for(chance, library)[::2]:
                self.check(library, word)

    def test_full_libraries(self):
        chance = random.Random(101)
        for library in libraries()[16:] + [random_library(chance, 2000) for _ in range(3)]:
            for word in words_for(chance, library)[-2:] + ["a" * 31, "ab" * 20 + "c"]:
                self.check(library, word)
        for word in ("ab" * 999, "a" * 2000, "a" * 2001, "b" * 20000):
            library = Library(("ab" * 1000,))
            self.assertEqual(near(library, word, 3), plain_near(library, word, 3))
            self.assertEqual(near_by_stretches(library, word, 3)[0], plain_near(library, word, 3))

    def test_errors_in_order(self):
        for thing in odd_things():
            for function in (near, near_by_stretches):
                if isinstance(thing, str) and thing.isprintable() and thing:
                    self.assertEqual(function(LIBRARY, thing, 0), function(LIBRARY, thing, 0))
                else:
                    self.assertIs(type(error_of(self, function, LIBRARY, thing, 0)), NoWord)
                    self.assertIs(type(error_of(self, function, LIBRARY, thing, thing)), NoWord)
                    self.assertIs(type(error_of(self, nearest, LIBRARY, thing)), NoWord)
                if not (type(thing) is int and 0 <= thing <= 3):
                    self.assertIs(type(error_of(self, function, LIBRARY, "ab", thing)), NoNumber)
        for function in (near, near_by_stretches):
            for most in (4, -1, True, False, "1", None, 10 ** 19):
                self.assertIs(type(error_of(self, function, Library(()), "a", most)), NoNumber)


class HolesTest(unittest.TestCase):

    def test_by_hand(self):
        self.assertEqual(with_holes("ab", ()), (("sign", "a"), ("sign", "b")))
        self.assertEqual(with_holes("ab", (1,)), (("sign", "a"), ("any",)))
        self.assertEqual(with_holes("?[", (0, 1)), (("any",), ("any",)))
        self.assertEqual(with_holes("a?b[", (2,)), read_pattern("a\\??\\["))
        self.assertEqual(with_holes("a" * 30, tuple(range(30))), (("any",),) * 30)

    def test_each_is_a_pattern(self):
        chance = random.Random(102)
        for _ in range(200):
            word = random_text(chance, 30) or "a"
            wrong = tuple(sorted(chance.sample(range(len(word)), chance.randint(0, len(word)))))
            pattern = with_holes(word, wrong)
            self.assertTrue(is_pattern(pattern))
            self.assertEqual(len(pattern), len(word))
            for index, part in enumerate(pattern):
                self.assertEqual(part, ("any",) if index in wrong else ("sign", word[index]))

    def test_the_fact_of_holes(self):
        chance = random.Random(103)
        for library in tiny_libraries()[::3]:
            for word in words_for(chance, library)[::2]:
                for most in range(min(4, len(word))):
                    places = {fit[:2] for wrong in combinations(range(len(word)), most)
                              for fit in fits(library, with_holes(word, wrong))}
                    self.assertEqual(sorted(places), [row[:2] for row in near(library, word, most)])

    def test_errors_in_order(self):
        self.assertIs(type(error_of(self, with_holes, "a" * 31, ())), NoWord)
        self.assertIs(type(error_of(self, with_holes, "a" * 31, None)), NoWord)
        self.assertIs(type(error_of(self, with_holes, "", None)), NoWord)
        for wrong in ((2,), (0, 2), (1, 0), (0, 0), (-1,), (True,), (0, True), (False,), ("0",), (None,), [0], [],
                      range(1), 0, None, ((0,),), (10 ** 19,), tuple(range(20000))):
            self.assertIs(type(error_of(self, with_holes, "ab", wrong)), NoHoles, wrong)
        for thing in odd_things():
            if not (isinstance(thing, str) and thing.isprintable() and 0 < len(thing) <= 30):
                self.assertIs(type(error_of(self, with_holes, thing, thing)), NoWord)
            if thing not in ((), (0,)):
                self.assertIs(type(error_of(self, with_holes, "ab", thing)), NoHoles)
            if type(thing) is not int or thing not in (0, 1):
                self.assertIs(type(error_of(self, with_holes, "ab", (thing,))), NoHoles)
            self.assertIs(type(error_of(self, with_holes, "ab", (0, 1, thing))), NoHoles)


class StretchesTest(unittest.TestCase):

    def test_by_hand(self):
        self.assertEqual(stretches("a", 1), ((0, "a"),))
        self.assertEqual(stretches("abcdefg", 1), ((0, "abcdefg"),))
        self.assertEqual(stretches("abcdefg", 2), ((0, "abcd"), (4, "efg")))
        self.assertEqual(stretches("abcdefg", 3), ((0, "abc"), (3, "de"), (5, "fg")))
        self.assertEqual(stretches("abcdefg", 4), ((0, "ab"), (2, "cd"), (4, "ef"), (6, "g")))
        self.assertEqual(stretches("abcd", 4), ((0, "a"), (1, "b"), (2, "c"), (3, "d")))

    def test_all_lengths_and_counts(self):
        chance = random.Random(104)
        for long in list(range(1, 40)) + [1999, 20000]:
            word = "".join(chance.choice("abc") for _ in range(long))
            for many in range(1, min(4, long) + 1):
                self.assertEqual(stretches(word, many), plain_stretches(word, many))
            for many in range(long + 1, 6):
                self.assertIs(type(error_of(self, stretches, word, many)), NoNumber)

    def test_the_fact_of_stretches(self):
        chance = random.Random(105)
        for _ in range(500):
            word = "".join(chance.choice("ab") for _ in range(chance.randint(4, 12)))
            wrong = chance.sample(range(len(word)), chance.randint(0, 3))
            other = "".join("x" if index in wrong else sign for index, sign in enumerate(word))
            self.assertTrue(any(other[at:at + len(signs)] == signs for at, signs in stretches(word, 4)))

    def test_errors_in_order(self):
        for many in (0, 5, -1, True, False, "1", None, (1,), 10 ** 19):
            self.assertIs(type(error_of(self, stretches, "abcdefg", many)), NoNumber)
            self.assertIs(type(error_of(self, stretches, "", many)), NoWord)
            self.assertIs(type(error_of(self, stretches, "a\n", many)), NoWord)
        for thing in odd_things():
            if not (isinstance(thing, str) and thing.isprintable() and thing):
                self.assertIs(type(error_of(self, stretches, thing, thing)), NoWord)
            if type(thing) is not int or thing != 1:
                self.assertIs(type(error_of(self, stretches, "abcdefg", thing)), NoNumber)


if __name__ == "__main__":
    unittest.main()
