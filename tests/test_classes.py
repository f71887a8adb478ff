"""6.1, 6.2: classes of like pieces, and their fathers."""

import random
import unittest

from everypiece.asks import all_pieces, count, span
from everypiece.classes import (class_of, classes, down, down_tree, grown, is_longest, least_pieces, many_pieces, up,
                                up_tree)
from everypiece.errors import NoClass, NoWord
from everypiece.libraries import Library, size
from helper import (by_length, error_of, libraries, nested, odd_things, pieces_of, places_of, plain_classes,
                    plain_grown, random_library, tiny_libraries)

WITHOUT = [Library(()), Library(("",)), Library(("",) * 8)]


def full_libraries():
    chance = random.Random(81)
    return [library for library in libraries() if size(library) >= 1000] + [
        Library(("".join(chance.choice("ab") for _ in range(1200)), "ab" * 350, "", "b" * 100)),
        Library(("".join(chance.choice("abcdefgh") for _ in range(2000)),)), random_library(chance, 2000)]


def no_numbers(many):
    """Things that are the number of no class, if there are so many."""
    return [thing for thing in odd_things() + [many, many + 1, -1, -many, 10 ** 19, True, False, "0", None, (0,), [0],
                                               nested(40, list)]
            if type(thing) is not int or not 0 <= thing < many]


class ClassesTest(unittest.TestCase):

    def test_by_hand(self):
        for texts, right in (
                ((), []), (("",) * 8, []), (("a",), [("a", 1)]), (("aaa",), [("a", 3), ("aa", 2), ("aaa", 1)]),
                (("ab", "ab"), [("ab", 2)]), (("ab", "b"), [("b", 2), ("ab", 1)]), (("abc",) * 8, [("abc", 8)]),
                (("xay", "zaw"), [("a", 2), ("xay", 1), ("zaw", 1)]), (("b", "a", "c"), [("a", 1), ("b", 1), ("c", 1)]),
                (("abcab",), [("ab", 2), ("abcab", 1)]), (("cab", "ab"), [("ab", 2), ("cab", 1)])):
            self.assertEqual(classes(Library(texts)), right)

    def test_classes_against_pieces_taken_one_by_one(self):
        for library in tiny_libraries():
            right = [(longest, len(places_of(library, longest))) for longest in plain_classes(library)]
            self.assertEqual(classes(library), right)
            self.assertIs(type(classes(library)), list)

    def test_class_of_and_grown(self):
        for library in tiny_libraries():
            for number, (longest, pieces) in enumerate(plain_classes(library).items()):
                for piece in pieces:
                    self.assertEqual(class_of(library, piece), (number, longest.index(piece)))
                    self.assertEqual(grown(library, piece), longest)
            for word in ("a" * 30, "~", "ab" * 15, "bbabba", "a" * 20000):
                if not places_of(library, word):
                    self.assertIsNone(class_of(library, word))
                    self.assertIsNone(grown(library, word))

    def test_in_whatever_order_they_are_grown(self):
        for library in tiny_libraries():
            for piece in pieces_of(library):
                self.assertEqual(plain_grown(library, piece, False), grown(library, piece))

    def test_least_and_many_pieces(self):
        for library in tiny_libraries():
            for number, (longest, pieces) in enumerate(plain_classes(library).items()):
                stretches = sorted((longest.index(piece), longest.index(piece) + len(piece)) for piece in pieces)
                least = [(low, high) for low, high in stretches
                         if not any((one, other) != (low, high) and low <= one and other <= high
                                    for one, other in stretches)]
                self.assertEqual(least_pieces(library, number), least)
                self.assertIs(type(least_pieces(library, number)), list)
                self.assertEqual(many_pieces(library, number), len(pieces))

    def test_is_longest(self):
        for library in tiny_libraries() + WITHOUT:
            right = plain_classes(library)
            for word in pieces_of(library) + ["", "a", "b", "ab", "~", " ", "aaaaaaa", "a" * 2001, "\n", "a\n"]:
                self.assertIs(is_longest(library, word), word in right)
            for thing in odd_things() + [list(right), tuple(right), nested(40, list)]:
                self.assertIs(is_longest(library, thing), isinstance(thing, str) and thing in right)

    def test_fact_of_classes(self):
        for library in tiny_libraries():
            for number, (longest, many) in enumerate(classes(library)):
                for low in range(len(longest)):
                    for high in range(low + 1, len(longest) + 1):
                        part = longest[low:high]
                        like = class_of(library, part)[0] == number
                        self.assertIs(like, len(places_of(library, part)) == many)
                        if like:
                            self.assertEqual(longest.count(part), 1)
                            self.assertEqual(class_of(library, part), (number, low))

    def test_fact_of_counts(self):
        for library in tiny_libraries():
            many = len(classes(library))
            self.assertLessEqual(many, 2 * size(library))
            self.assertEqual(sum(many_pieces(library, number) for number in range(many)), all_pieces(library))

    def test_new_lists(self):
        library = Library(("abab",))
        classes(library).clear()
        least_pieces(library, 0)[0] = None
        self.assertEqual(classes(library), [("ab", 2), ("abab", 1)])
        self.assertEqual(least_pieces(library, 0), [(0, 1), (1, 2)])


class FullTest(unittest.TestCase):

    def test_one_sign_again_and_again(self):
        library = Library(("a" * 2000,))
        self.assertEqual(classes(library), [("a" * many, 2001 - many) for many in range(1, 2001)])
        right = tuple((number - 1, 0) if number else None for number in range(2000))
        self.assertEqual(up_tree(library), right)
        self.assertEqual(down_tree(library), right)
        self.assertEqual(least_pieces(library, 1999), [(0, 2000)])
        self.assertEqual(many_pieces(library, 999), 1)
        self.assertEqual(class_of(library, "a" * 1234), (1233, 0))
        self.assertIsNone(class_of(library, "a" * 2001))
        self.assertIs(type(error_of(self, up, library, 2000)), NoClass)

    def test_two_signs_by_turns(self):
        library = Library(("ab" * 1000,))
        self.assertEqual(classes(library), [("ab" * many, 1001 - many) for many in range(1, 1001)])
        self.assertEqual(least_pieces(library, 999), [(1, 1999)])
        self.assertEqual(least_pieces(library, 500), [(1, 1001)])
        self.assertEqual(class_of(library, "ba"), (1, 1))
        self.assertEqual(grown(library, "ba" * 999), "ab" * 1000)
        self.assertEqual(up(library, 7), (6, 0))
        self.assertEqual(down(library, 7), (6, 0))

    def test_like_texts(self):
        library = Library(("c" * 250,) * 8)
        self.assertEqual(classes(library), [("c" * many, 8 * (251 - many)) for many in range(1, 251)])

    def test_sorted_and_counted(self):
        for library in full_libraries():
            found = classes(library)
            longests = [longest for longest, _ in found]
            self.assertEqual(longests, by_length(set(longests)))
            self.assertLessEqual(len(found), 2 * size(library))
            for longest, many in found[::max(1, len(found) // 60)]:
                self.assertEqual(many, len(places_of(library, longest)))
                self.assertEqual(plain_grown(library, longest), longest)

    def test_pieces_of_full_libraries(self):
        chance = random.Random(82)
        for library in full_libraries():
            longests = [longest for longest, _ in classes(library)]
            texts = [text for text in library.texts if text]
            for _ in range(6):
                text = chance.choice(texts)
                at = chance.randrange(len(text))
                piece = text[at:at + chance.choice([1, 2, 4, 9, 30])]
                longest = plain_grown(library, piece)
                self.assertEqual(grown(library, piece), longest)
                self.assertEqual(class_of(library, piece), (longests.index(longest), longest.index(piece)))
                self.assertIs(is_longest(library, piece), piece == longest)
                self.assertIs(is_longest(library, longest), True)

    def test_pieces_come_to_all_unlike_ones(self):
        for library in full_libraries()[-1:]:
            some = range(0, len(classes(library)), 97)
            for number in some:
                longest, many = classes(library)[number]
                least = least_pieces(library, number)
                parts = {(low, high) for one, other in least for low in range(one + 1)
                         for high in range(other, len(longest) + 1)}
                self.assertEqual(many_pieces(library, number), len(parts))
                for low, high in least:
                    self.assertEqual(len(places_of(library, longest[low:high])), many)
                    for part in (longest[low + 1:high], longest[low:high - 1]):
                        if part:
                            self.assertGreater(len(places_of(library, part)), many)


class FathersTest(unittest.TestCase):

    def plain_father(self, library, number, parts):
        """The pair of the first of these parts of a longest piece that is of another class, None if none is."""
        for part in parts:
            if part and class_of(library, part)[0] != number:
                return class_of(library, part)
        return None

    def test_against_beginnings_and_endings_taken_one_by_one(self):
        for library in tiny_libraries():
            ups, downs = [], []
            for number, (longest, _) in enumerate(classes(library)):
                many = len(longest)
                ups.append(self.plain_father(library, number, [longest[:many - cut] for cut in range(many)]))
                downs.append(self.plain_father(library, number, [longest[cut:] for cut in range(many)]))
                self.assertEqual(up(library, number), ups[-1])
                self.assertEqual(down(library, number), downs[-1])
            self.assertEqual(up_tree(library), tuple(ups))
            self.assertEqual(down_tree(library), tuple(downs))

    def test_by_hand(self):
        library = Library(("xay", "zaw"))
        self.assertEqual([up(library, number) for number in range(3)], [None, None, None])
        library = Library(("xay", "aw"))
        self.assertEqual(classes(library), [("a", 2), ("aw", 1), ("xay", 1)])
        self.assertEqual(up_tree(library), (None, (0, 0), None))
        self.assertEqual(down_tree(library), (None, None, None))
        for library in WITHOUT:
            self.assertEqual(up_tree(library), ())
            self.assertEqual(down_tree(library), ())

    def test_fact_of_fathers(self):
        for library in tiny_libraries() + full_libraries()[:4]:
            found = classes(library)
            for tree in (up_tree(library), down_tree(library)):
                self.assertEqual(len(tree), len(found))
                for number in range(0, len(found), max(1, len(found) // 50)):
                    steps = 0
                    while tree[number] is not None:
                        self.assertGreater(found[tree[number][0]][1], found[number][1])
                        number = tree[number][0]
                        steps += 1
                    self.assertLessEqual(steps, len(found))

    def test_spans_lie_within_those_of_beginnings(self):
        for library in tiny_libraries()[::3]:
            for longest, _ in classes(library):
                low, behind = span(library, longest)
                for many in range(1, len(longest)):
                    other_low, other_behind = span(library, longest[:many])
                    self.assertTrue(other_low <= low and behind <= other_behind)

    def test_full_libraries(self):
        for library in full_libraries():
            found = classes(library)
            ups, downs = up_tree(library), down_tree(library)
            for number in range(0, len(found), max(1, len(found) // 25)):
                longest, many = found[number]
                if ups[number] is not None:
                    home, offset = ups[number]
                    part = found[home][0][offset:]
                    self.assertTrue(longest.startswith(part))
                    self.assertEqual(len(places_of(library, longest[:len(part) + 1])), many)
                    self.assertGreater(len(places_of(library, part)), many)
                else:
                    self.assertEqual(count(library, longest[0]), many)
                if downs[number] is not None:
                    home, offset = downs[number]
                    part = found[home][0][offset:]
                    self.assertTrue(longest.endswith(part))
                    self.assertEqual(len(places_of(library, longest[-len(part) - 1:])), many)
                    self.assertGreater(len(places_of(library, part)), many)
                else:
                    self.assertEqual(count(library, longest[-1]), many)


class WrongTest(unittest.TestCase):

    def test_no_word(self):
        for library in WITHOUT + [Library(("abab", "ba"))]:
            for thing in odd_things() + ["", "\n", "a\n", "\x7f", b"a", None, 0, ["a"], ("a",), nested(40, tuple)]:
                if not (isinstance(thing, str) and thing and all(" " <= sign <= "~" for sign in thing)):
                    self.assertIs(type(error_of(self, class_of, library, thing)), NoWord)
                    self.assertIs(type(error_of(self, grown, library, thing)), NoWord)

    def test_no_class(self):
        for library in WITHOUT + [Library(("abab", "", "ba")), Library(("a" * 12,))]:
            for thing in no_numbers(len(classes(library))):
                for function in (least_pieces, many_pieces, up, down):
                    self.assertIs(type(error_of(self, function, library, thing)), NoClass)


if __name__ == "__main__":
    unittest.main()
