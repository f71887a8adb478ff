"""3.2: what edits do to the order of endings."""

import random
import unittest
from itertools import combinations

from everypiece.edits import is_edit
from everypiece.endings import common, exchanged, fewest_moves, kept_for, staying
from everypiece.errors import NoEdit, NoPlace
from everypiece.libraries import Library
from helper import (WORDS, error_of, libraries, odd_things, place_list, plain_common, plain_order, plain_taken,
                    quick_common, random_edit, random_library, signs_from, small_libraries, some_edits_of, well_formed)


def tries():
    """Pairs of a library and an edit: all edits of small ones, and some of others."""
    chance = random.Random(35)
    for library in small_libraries():
        for edit in well_formed(range(4), ("x", "ab")):
            if is_edit(library, edit) and (edit[0] != "move" or sum(edit[1:]) % 3 == 0):
                yield library, edit
    for library in libraries():
        if len(place_list(library)) < 40:
            for edit in some_edits_of(library, 40):
                yield library, edit
    for _ in range(400):
        library = random_library(chance, chance.choice([4, 8, 40]))
        yield library, random_edit(chance, library)


def full_tries():
    chance = random.Random(36)
    for library in libraries():
        if len(place_list(library)) >= 1000:
            yield library, random_edit(chance, library)
    yield Library(("a" * 1999,)), ("put", 0, 1999, "z")
    yield Library(("a" * 1999,)), ("put", 0, 1999, " ")
    yield Library(("ab" * 1000,)), ("change", 0, 1999, "~")
    yield Library(("ab" * 500, "ba" * 500)), ("join", 1, 0)


def by_order(library, then_library, taken):
    """The places that are taken on, by rank, and a dict of the ranks behind the edit."""
    behind = {place: number for number, place in enumerate(plain_order(then_library))}
    return [place for place in plain_order(library) if place in taken], {place: behind[taken[place]] for place in taken}


class KeptTest(unittest.TestCase):

    def check(self, library, edit, chosen):
        later, taken = plain_taken(library, edit)
        for place in chosen:
            if place not in taken:
                self.assertIs(type(error_of(self, kept_for, library, edit, place)), NoPlace)
                continue
            one, other = signs_from(library, place), signs_from(later, taken[place])
            self.assertEqual(kept_for(library, edit, place), None if one == other else plain_common(one, other),
                             (library.texts, edit, place))

    def test_by_hand(self):
        library = Library(("abab", "ab"))
        for edit, place, right in ((("put", 0, 2, "x"), (0, 0), 2), (("put", 0, 2, "x"), (0, 1), 1),
                                   (("put", 0, 2, "x"), (0, 2), None), (("put", 0, 4, "x"), (0, 3), 1),
                                   (("put", 0, 2, "ab"), (0, 0), 4), (("cut", 0, 2, 2), (0, 0), 2),
                                   (("cut", 0, 0, 2), (0, 2), None), (("cut", 0, 1, 1), (0, 0), 1),
                                   (("change", 0, 3, "x"), (0, 0), 3), (("change", 0, 3, "b"), (0, 0), None),
                                   (("come", "x"), (0, 0), None), (("split", 0, 2), (0, 0), 2),
                                   (("split", 0, 2), (0, 2), None), (("join", 0, 1), (1, 0), None),
                                   (("join", 0, 1), (0, 2), 2), (("move", 1, 1, 1, 0, 0), (1, 1), 1),
                                   (("move", 1, 0, 2, 0, 0), (1, 1), 1), (("move", 1, 0, 2, 0, 4), (0, 0), 4)):
            self.assertEqual(kept_for(library, edit, place), right, (edit, place))

    def test_against_plain_search(self):
        for library, edit in tries():
            self.check(library, edit, place_list(library))

    def test_full_libraries(self):
        for library, edit in full_tries():
            self.check(library, edit, place_list(library)[::199] + place_list(library)[-1:])


class ExchangedTest(unittest.TestCase):

    def plain_pairs(self, library, edit):
        later, taken = plain_taken(library, edit)
        row, behind = by_order(library, later, taken)
        return sorted((one, other) for one, other in combinations(row, 2) if behind[one] > behind[other])

    def test_by_hand(self):
        library = Library(("abab",))
        self.assertEqual(exchanged(library, ("put", 0, 4, "z")), [((0, 2), (0, 0)), ((0, 3), (0, 1))])
        self.assertEqual(exchanged(library, ("put", 0, 0, "z")), [])
        self.assertEqual(exchanged(library, ("come", "a")), [])
        self.assertEqual(exchanged(Library(("ab", "ab")), ("put", 0, 2, "c")), [((0, 0), (1, 0)), ((0, 1), (1, 1))])
        self.assertEqual(exchanged(Library(("a", "", "a")), ("move", 2, 0, 1, 1, 0)), [])
        self.assertEqual(exchanged(Library(("a", "a", "")), ("move", 0, 0, 1, 2, 0)), [((0, 0), (1, 0))])

    def test_against_plain_search_and_fact_of_edits(self):
        words, pairs = [], 0
        for library, edit in tries():
            found = exchanged(library, edit)
            self.assertIs(type(found), list)
            self.assertEqual(found, self.plain_pairs(library, edit), (library.texts, edit))
            later, taken = plain_taken(library, edit)
            for one, other in found:
                kept = [kept_for(library, edit, place) for place in (one, other)]
                least = min([many for many in kept if many is not None], default=10 ** 9)
                if common(library, one, other) < least:
                    self.assertEqual(signs_from(library, one), signs_from(library, other))
                    self.assertEqual(signs_from(later, taken[one]), signs_from(later, taken[other]))
                    self.assertLess(one, other)
                    self.assertGreater(taken[one], taken[other])
            words.append(edit[0])
            pairs += len(found)
        self.assertEqual(sorted(set(words)), sorted(WORDS))
        self.assertGreater(pairs, 100)

    def test_full_libraries(self):
        for number, (library, edit) in enumerate(full_tries()):
            if number % 4 == 0:
                self.assertEqual(exchanged(library, edit), self.plain_pairs(library, edit), edit)
        many = len(exchanged(Library(("a" * 1999,)), ("put", 0, 1999, "z")))
        self.assertEqual(many, 1999 * 1998 // 2)


class StayingTest(unittest.TestCase):

    def fewest_tried(self, row, behind):
        """How many places must be taken out of a row so that the others rise: by trying all."""
        for many in range(len(row) + 1):
            for rest in combinations(row, len(row) - many):
                ranks = [behind[place] for place in rest]
                if ranks == sorted(ranks):
                    return many

    def fewest_told(self, row, behind):
        """The same, by the longest row that ends with each place."""
        longest = []
        for number, place in enumerate(row):
            best = max([longest[other] for other in range(number) if behind[row[other]] < behind[place]], default=0)
            longest.append(best + 1)
        return len(row) - max(longest, default=0)

    def check(self, library, edit, fewest):
        later, taken = plain_taken(library, edit)
        row, behind = by_order(library, later, taken)
        found = staying(library, edit)
        self.assertIs(type(found), tuple)
        self.assertEqual(list(found), [place for place in row if place in set(found)])
        self.assertEqual(len(found), len(set(found)))
        ranks = [behind[place] for place in found]
        self.assertEqual(ranks, sorted(ranks))
        many = fewest(row, behind)
        self.assertEqual(len(row) - len(found), many, (library.texts, edit))
        self.assertEqual(fewest_moves(library, edit), many)

    def test_by_hand(self):
        library = Library(("aaaa",))
        self.assertEqual(fewest_moves(library, ("put", 0, 4, "z")), 3)
        self.assertEqual(len(staying(library, ("put", 0, 4, "z"))), 1)
        self.assertEqual(fewest_moves(library, ("put", 0, 4, "a")), 0)
        self.assertEqual(staying(library, ("cut", 0, 1, 2)), ((0, 3), (0, 0)))
        self.assertEqual(staying(Library(()), ("come", "ab")), ())
        self.assertEqual(fewest_moves(Library(("ab",)), ("cut", 0, 0, 2)), 0)
        self.assertEqual(staying(Library(("ab",)), ("cut", 0, 0, 2)), ())

    def test_all_that_can_be_tried(self):
        for library, edit in tries():
            if len(place_list(library)) <= 9:
                self.check(library, edit, self.fewest_tried)

    def test_larger_ones(self):
        for library, edit in tries():
            if len(place_list(library)) > 9:
                self.check(library, edit, self.fewest_told)

    def test_full_libraries(self):
        for number, (library, edit) in enumerate(full_tries()):
            if number % 2 == 0:
                self.check(library, edit, self.fewest_told)


class WrongTest(unittest.TestCase):

    def test_no_edit(self):
        for library in (Library(()), Library(("abab",)), Library(("", "ab"))):
            for thing in odd_things() + [("put", 5, 0, "x"), ["come", ""], ("go", 0), ("cut", 0, 0, 0),
                                         ("cut", 0, 9, 1)]:
                for function in (exchanged, staying, fewest_moves):
                    self.assertIs(type(error_of(self, function, library, thing)), NoEdit)
                for place in ((0, 0), (0, 9), None):
                    self.assertIs(type(error_of(self, kept_for, library, thing, place)), NoEdit)

    def test_no_place(self):
        library = Library(("abab", ""))
        for edit in (("put", 0, 1, "x"), ("cut", 0, 0, 2), ("change", 0, 0, "x"), ("come", "x"), ("go",),
                     ("split", 0, 1), ("join", 1, 0), ("move", 0, 0, 1, 1, 0)):
            for thing in odd_things() + [(0, True), (False, 0), [0, 0], (0, 4), (1, 0), (2, 0), (0, -1)]:
                self.assertIs(type(error_of(self, kept_for, library, edit, thing)), NoPlace)
        for place in ((0, 0), (0, 1)):
            self.assertIs(type(error_of(self, kept_for, library, ("cut", 0, 0, 2), place)), NoPlace)
            self.assertIs(type(error_of(self, kept_for, library, ("change", 0, 0, "ab"), place)), NoPlace)

    def test_the_two_plain_ways_agree(self):
        chance = random.Random(37)
        for _ in range(300):
            one, other = ("".join(chance.choice("ab") for _ in range(chance.randint(0, 9))) for _ in range(2))
            self.assertEqual(quick_common(one, other), plain_common(one, other))


if __name__ == "__main__":
    unittest.main()
