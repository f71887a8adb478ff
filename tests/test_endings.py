"""3.1: the order of endings, and what they have in common."""

import random
import unittest
from itertools import permutations

from everypiece.endings import common, ending, endings, is_order, lengths, order_fault, rank
from everypiece.errors import NoPlace
from everypiece.libraries import Library
from helper import (error_of, libraries, odd_things, place_list, plain_common, plain_lengths, plain_order,
                    random_library, signs_from, small_libraries)


def many_libraries():
    chance = random.Random(31)
    return libraries() + [random_library(chance, chance.choice([6, 30, 200])) for _ in range(80)] + [
        random_library(chance, 2000) for _ in range(10)]


def quick_libraries():
    return [library for library in many_libraries() if len(place_list(library)) <= 200]


class OrderTest(unittest.TestCase):

    def test_by_hand(self):
        for texts, order, row in (
                ((), [], []), (("", ""), [], []), (("a",), [(0, 0)], [0]),
                (("aaa",), [(0, 2), (0, 1), (0, 0)], [0, 1, 2]),
                (("ab", "ab"), [(0, 0), (1, 0), (0, 1), (1, 1)], [0, 2, 0, 1]),
                (("b", "", "ab", "a"), [(3, 0), (2, 0), (0, 0), (2, 1)], [0, 1, 0, 1]),
                (("aZ~ ",), [(0, 3), (0, 1), (0, 0), (0, 2)], [0, 0, 0, 0])):
            self.assertEqual(endings(Library(texts)), order)
            self.assertEqual(lengths(Library(texts)), row)

    def test_against_pythons_own_sorting(self):
        for library in many_libraries():
            order = plain_order(library)
            self.assertEqual(endings(library), order)
            self.assertIs(type(endings(library)), list)
            self.assertEqual(lengths(library), plain_lengths(library))
            self.assertIs(type(lengths(library)), list)

    def test_a_new_list_each_time(self):
        library = Library(("abab", "b"))
        endings(library).clear()
        lengths(library)[0] = 9
        self.assertEqual(endings(library), plain_order(library))
        self.assertEqual(lengths(library), plain_lengths(library))

    def test_ending_and_rank(self):
        for library in many_libraries():
            order = plain_order(library)
            for number in range(0, len(order), max(1, len(order) // 50)):
                self.assertEqual(rank(library, order[number]), number)
                self.assertEqual(ending(library, order[number]), signs_from(library, order[number]))

    def test_rank_of_each_place(self):
        for library in quick_libraries():
            order = plain_order(library)
            self.assertEqual([rank(library, place) for place in order], list(range(len(order))))

    def test_common(self):
        chance = random.Random(32)
        for library in many_libraries():
            found = place_list(library)
            for _ in range(60 if found else 0):
                one, other = chance.choice(found), chance.choice(found)
                right = plain_common(signs_from(library, one), signs_from(library, other))
                self.assertEqual(common(library, one, other), right)
                self.assertEqual(common(library, other, one), right)
                self.assertEqual(common(library, one, one), len(signs_from(library, one)))

    def test_common_of_all_pairs_of_small_libraries(self):
        for library in small_libraries() + [Library(("aabaab", "aab")), Library(("a" * 17, "a" * 16 + "b"))]:
            for one in place_list(library):
                for other in place_list(library):
                    self.assertEqual(common(library, one, other),
                                     plain_common(signs_from(library, one), signs_from(library, other)))

    def test_fact_of_lengths(self):
        chance = random.Random(33)
        for library in many_libraries():
            order, row = endings(library), lengths(library)
            for _ in range(60 if len(order) > 1 else 0):
                low, high = sorted(chance.sample(range(len(order)), 2))
                self.assertEqual(common(library, order[low], order[high]), min(row[low + 1:high + 1]))

    def test_no_place(self):
        for library in (Library(()), Library(("",)), Library(("abab", "", "ba"))):
            right = place_list(library)
            wrong = odd_things() + [(0, 4), (1, 0), (2, 2), (3, 0), (-1, 0), (0, -1), (True, 0), (0, False), [0, 0],
                                    (0, 0, 0), (0,), "00", (0, None), (10 ** 19, 0)]
            for thing in wrong:
                self.assertIs(type(error_of(self, ending, library, thing)), NoPlace)
                self.assertIs(type(error_of(self, rank, library, thing)), NoPlace)
                for place in right[:2] + [None]:
                    self.assertIs(type(error_of(self, common, library, thing, place)), NoPlace)
                    self.assertIs(type(error_of(self, common, library, place, thing)), NoPlace)


class FaultTest(unittest.TestCase):

    def check(self, library, thing, fault):
        self.assertEqual(order_fault(library, thing), fault)
        self.assertIs(is_order(library, thing), fault is None)

    def plain_fault(self, library, row):
        keys = [(signs_from(library, place), place) for place in row]
        return next((("order", number) for number in range(len(keys) - 1) if keys[number + 1] < keys[number]), None)

    def test_the_right_one(self):
        for library in many_libraries():
            order = plain_order(library)
            self.check(library, order, None)
            self.check(library, tuple(order), None)

    def test_all_orders_of_small_libraries(self):
        for library in small_libraries() + [Library(("aab", "ab")), Library(("aa", "aa", ""))]:
            if len(place_list(library)) > 6:
                continue
            for row in permutations(place_list(library)):
                self.check(library, row, self.plain_fault(library, row))
                self.check(library, list(row), self.plain_fault(library, row))

    def test_two_places_exchanged(self):
        chance = random.Random(34)
        for library in many_libraries():
            row = plain_order(library)
            for _ in range(8 if len(row) > 1 else 0):
                low, high = sorted(chance.sample(range(len(row)), 2))
                turned = list(row)
                turned[low], turned[high] = row[high], row[low]
                # What stands at low now is greater than all that stand between.
                self.check(library, turned, ("order", low))
            if len(row) > 1:
                self.check(library, row[::-1], ("order", 0))
                self.check(library, row[:-2] + row[:-3:-1], ("order", len(row) - 2))

    def test_like_endings_stand_by_place(self):
        library = Library(("ab", "ab"))
        self.check(library, [(1, 0), (0, 0), (0, 1), (1, 1)], ("order", 0))
        self.check(library, [(0, 0), (1, 0), (1, 1), (0, 1)], ("order", 2))

    def test_no_row_of_all_places(self):
        library = Library(("ab", "a"))
        right = [(1, 0), (0, 0), (0, 1)]
        self.check(library, right, None)
        for thing in (right[:2], right[1:], right + [(0, 0)], right[:2] + [(0, 0)], [(0, 0)] * 3, right[:2] + [(0, 2)],
                      right[:2] + [(1, 1)], right[:2] + [(2, 0)], right[:2] + [[0, 1]], right[:2] + [None], [],
                      (), [True] * 3, [(1, 0), (0, 0), (False, 1)], [(1, 0), (0, 0), (0, True)],
                      [(True, 0), (0, 0), (0, 1)], right[:2] + [(0, 1, 0)], right[:2] + [(0,)], [right], "abc", {},
                      {(1, 0): 0, (0, 0): 0, (0, 1): 0}, dict.fromkeys(right).keys(), iter(right), range(3),
                      [(1, 0), (0, 0), (0, -1)], [(1, 0), (0, 0), ({}, [])], right * 6000):
            self.check(library, thing, ("form",))
        for thing in odd_things():
            self.check(library, thing, ("form",))
            for made in (list, tuple):
                self.check(library, made(right[:2] + [thing]), ("form",))
                self.check(library, made([thing] + right[1:]), ("form",))
        self.assertEqual(right, [(1, 0), (0, 0), (0, 1)])

    def test_a_library_without_signs(self):
        for library in (Library(()), Library(("", ""))):
            self.check(library, [], None)
            self.check(library, (), None)
            for thing in odd_things():
                if thing != [] and thing != ():
                    self.check(library, thing, ("form",))


if __name__ == "__main__":
    unittest.main()
