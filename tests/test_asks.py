"""4.1, 4.2, 4.3: where words stand, gaps, and all pieces."""

import random
import unittest

from everypiece.asks import (all_pieces, count, first_place, gap, is_gap, last_place, many_long, next_place,
                             number_of, piece_numbered, places, span, texts_with)
from everypiece.endings import endings, lengths
from everypiece.errors import NoNumber, NoPlace, NoWord
from everypiece.libraries import Library
from helper import (error_of, libraries, nested, odd_things, place_list, plain_order, plain_span, random_library,
                    signs_from, small_libraries)

NO_WORDS = ("", "\n", "a\n", "\na", "a\tb", "\x7f", None, True, False, 0, 7, -1, b"a", ["a"], ("a",), {"a": 1}, (), [],
            Library(("a",)), nested(40, list), nested(40, tuple), str)


def many_libraries():
    chance = random.Random(51)
    return libraries() + [random_library(chance, chance.choice([5, 12, 40])) for _ in range(80)]


def quick_libraries(most=40):
    return [library for library in many_libraries() if len(place_list(library)) <= most]


def full_libraries():
    return [library for library in libraries() if len(place_list(library)) >= 1000]


def words_for(library):
    """Pieces, what is a sign off one, and words that stand nowhere."""
    chance = random.Random(52)
    found = ["a", "b", "ab", "ba", "aa", "bb", " ", "~", "~~~", "Z", "abab", "c" * 251, "a" * 2000, "a" * 2001,
             "ab" * 1001]
    for text in library.texts:
        for _ in range(6 if text else 0):
            at = chance.randrange(len(text))
            word = text[at:at + chance.choice([1, 2, 3, len(text)])]
            found += [word, word + chance.choice(" a~"), chance.choice(" b~") + word, word[:-1] + "b"]
    return list(dict.fromkeys(found))


def plain_places(library, word):
    return [place for place in place_list(library) if signs_from(library, place).startswith(word)]


def plain_pieces(library):
    """All unlike pieces, ascending, taken one by one."""
    return sorted({text[at:behind] for text in library.texts for at in range(len(text))
                   for behind in range(at + 1, len(text) + 1)})


class PlacesTest(unittest.TestCase):

    def test_by_hand(self):
        library = Library(("abab", "", "bab", "a"))
        self.assertEqual(places(library, "ab"), [(0, 0), (0, 2), (2, 1)])
        self.assertEqual(count(library, "ab"), 3)
        self.assertEqual(first_place(library, "b"), (0, 1))
        self.assertEqual(last_place(library, "a"), (3, 0))
        self.assertEqual(next_place(library, "a", (0, 2)), (2, 1))
        self.assertIsNone(next_place(library, "b", (2, 2)))
        self.assertEqual(texts_with(library, "ab"), (0, 2))
        self.assertEqual(places(library, "ba"), [(0, 1), (2, 0)])
        self.assertEqual(places(Library(("aaaa",)), "aa"), [(0, 0), (0, 1), (0, 2)])
        self.assertEqual(places(Library(("ab", "ab")), "ba"), [])

    def test_against_plain_search(self):
        for library in many_libraries():
            for word in words_for(library):
                right = plain_places(library, word)
                self.assertEqual(places(library, word), right)
                self.assertIs(type(places(library, word)), list)
                self.assertEqual(count(library, word), len(right))
                self.assertEqual(first_place(library, word), right[0] if right else None)
                self.assertEqual(last_place(library, word), right[-1] if right else None)
                self.assertEqual(texts_with(library, word), tuple(sorted({text for text, _ in right})))

    def test_next_place(self):
        for library in quick_libraries(12):
            for word in words_for(library):
                self.check_next(library, word, place_list(library))
        for library in full_libraries():
            for word in ("a", "ab", "c" * 250):
                self.check_next(library, word, place_list(library)[::397] + place_list(library)[-1:])

    def check_next(self, library, word, chosen):
        right = plain_places(library, word)
        for place in chosen:
            greater = [other for other in right if other > place]
            self.assertEqual(next_place(library, word, place), greater[0] if greater else None)

    def test_going_by_next_place(self):
        for library in quick_libraries():
            for word in words_for(library):
                found, place = [], first_place(library, word)
                while place is not None:
                    found.append(place)
                    place = next_place(library, word, place)
                self.assertEqual(found, places(library, word))

    def test_a_new_list_each_time(self):
        library = Library(("abab",))
        places(library, "ab").clear()
        self.assertEqual(places(library, "ab"), [(0, 0), (0, 2)])

    def test_no_word(self):
        for library in (Library(()), Library(("",)), Library(("abab", "ba"))):
            for thing in NO_WORDS + tuple(thing for thing in odd_things() if not isinstance(thing, str)):
                for function in (places, count, first_place, last_place, texts_with, span, gap, number_of):
                    self.assertIs(type(error_of(self, function, library, thing)), NoWord)
                for other in ((0, 0), (9, 9), None, (None, None)):
                    self.assertIs(type(error_of(self, next_place, library, thing, other)), NoWord)
                    self.assertIs(type(error_of(self, is_gap, library, thing, other)), NoWord)

    def test_no_place(self):
        for library in (Library(()), Library(("",)), Library(("abab", "", "ba"))):
            for thing in odd_things() + [(0, 4), (1, 0), (2, 2), (3, 0), (True, 0), (0, False), [0, 0], (-1, 0)]:
                for word in ("a", "ab", "x", "a" * 2001):
                    self.assertIs(type(error_of(self, next_place, library, word, thing)), NoPlace)


class SpanTest(unittest.TestCase):

    def test_by_hand(self):
        library = Library(("abab",))
        for word, right in (("a", (0, 2)), ("ab", (0, 2)), ("aba", (1, 2)), ("b", (2, 4)), ("ba", (3, 4)),
                            ("aa", (0, 0)), ("abb", (2, 2)), ("ababa", (2, 2)), ("bb", (4, 4)),
                            (" ", (0, 0)), ("~", (4, 4))):
            self.assertEqual(span(library, word), right)
        self.assertEqual(span(Library(()), "a"), (0, 0))

    def test_against_plain_search(self):
        for library in many_libraries():
            for word in words_for(library)[:None if len(place_list(library)) < 100 else 30]:
                self.assertEqual(span(library, word), plain_span(library, word), (library.texts, word))
                self.assertIs(type(span(library, word)), tuple)

    def test_fact_of_spans(self):
        for library in many_libraries():
            order = endings(library)
            for word in words_for(library)[:20]:
                low, behind = span(library, word)
                self.assertEqual(sorted(order[low:behind]), places(library, word))
                self.assertTrue(all(signs_from(library, place) < word for place in order[:low][-9:]))
                self.assertTrue(all(signs_from(library, place) > word for place in order[behind:][:9]))


class GapTest(unittest.TestCase):

    def test_by_hand(self):
        library = Library(("abab",))
        for word, right in (("aa", (None, (0, 2))), ("ab", None), ("abb", ((0, 0), (0, 3))), ("ac", ((0, 0), (0, 3))),
                            ("bb", ((0, 1), None)), ("~", ((0, 1), None)), ("ababa", ((0, 0), (0, 3))),
                            (" ", (None, (0, 2)))):
            self.assertEqual(gap(library, word), right)
        for texts in ((), ("",), ("", "")):
            self.assertEqual(gap(Library(texts), "a"), (None, None))

    def gaps_of(self, library, word):
        """All pairs of endings side by side between which a word stands, and begins none of them."""
        order = [None] + plain_order(library) + [None]
        found = []
        for less, greater in zip(order, order[1:]):
            low = None if less is None else signs_from(library, less)
            high = None if greater is None else signs_from(library, greater)
            if (low is None or low < word and not low.startswith(word)) and (
                    high is None or high > word and not high.startswith(word)):
                found.append((less, greater))
        return found

    def test_fact_of_gaps(self):
        for library in many_libraries():
            for word in words_for(library)[:None if len(place_list(library)) < 100 else 20]:
                found = self.gaps_of(library, word)
                if plain_places(library, word):
                    self.assertEqual(found, [])
                    self.assertIsNone(gap(library, word))
                else:
                    self.assertEqual(found, [gap(library, word)])

    def test_is_gap_of_all_pairs(self):
        for library in quick_libraries(8):
            parts = place_list(library) + [None]
            for word in words_for(library):
                right = self.gaps_of(library, word)
                for one in parts:
                    for other in parts:
                        self.assertIs(is_gap(library, word, (one, other)), (one, other) in right)

    def test_what_is_no_gap(self):
        library = Library(("abab",))
        right = (None, (0, 2))
        self.assertIs(is_gap(library, "aa", right), True)
        for thing in ([None, (0, 2)], (None,), (None, (0, 2), None), ((0, 2),), (None, [0, 2]), ((0, 2), None), None,
                      (), (False, (0, 2)), (None, (False, 2)), (0, (0, 2)), ("", (0, 2)), (None, None), (None, (0, 0)),
                      ((None,), (0, 2)), (None, (0, 2, 0)), ((), (0, 2)), nested(40, tuple),
                      (nested(39, list), (0, 2))):
            self.assertIs(is_gap(library, "aa", thing), False)
        for thing in odd_things():
            for word in ("aa", "ab", "zz"):
                self.assertIs(is_gap(library, word, thing), False)
                self.assertIs(is_gap(library, word, (None, thing)), False)
                self.assertIs(is_gap(library, word, (thing, (0, 2))), thing is None and word == "aa")

    def test_flags_are_no_numbers_of_places(self):
        library = Library(("b", "ab"))
        self.assertEqual(gap(library, "abb"), ((1, 0), (0, 0)))
        self.assertIs(is_gap(library, "abb", ((1, 0), (0, 0))), True)
        for thing in (((True, 0), (0, 0)), ((1, False), (0, 0)), ((1, 0), (False, 0)), ((1, 0), (0, False))):
            self.assertIs(is_gap(library, "abb", thing), False)

    def test_a_piece_has_none(self):
        for library in quick_libraries(12):
            for word in plain_pieces(library):
                for thing in (None, (), (None, None), (plain_order(library)[0], None)):
                    self.assertIs(is_gap(library, word, thing), False)


class PiecesTest(unittest.TestCase):

    def test_by_hand(self):
        library = Library(("abab",))
        self.assertEqual([piece_numbered(library, number) for number in range(7)],
                         ["a", "ab", "aba", "abab", "b", "ba", "bab"])
        self.assertEqual([many_long(library, many) for many in range(1, 6)], [2, 2, 2, 1, 0])
        self.assertEqual(all_pieces(Library(())), 0)
        self.assertEqual(all_pieces(Library(("", ""))), 0)
        self.assertEqual(all_pieces(Library(("ab", "ab", "b"))), 3)

    def test_all_pieces_taken_one_by_one(self):
        for library in quick_libraries():
            pieces = plain_pieces(library)
            self.assertEqual(all_pieces(library), len(pieces))
            self.assertEqual([piece_numbered(library, number) for number in range(len(pieces))][:300], pieces[:300])
            self.assertEqual([number_of(library, piece) for piece in pieces[-300:]], list(range(len(pieces)))[-300:])
            for word in words_for(library):
                self.assertEqual(number_of(library, word), pieces.index(word) if word in pieces else None)
            for many in range(1, 42):
                self.assertEqual(many_long(library, many), len([piece for piece in pieces if len(piece) == many]))

    def test_fact_of_pieces(self):
        for library in many_libraries():
            signs = sum(len(text) * (len(text) + 1) // 2 for text in library.texts)
            self.assertEqual(all_pieces(library), signs - sum(lengths(library)))

    def test_pieces_of_all_lengths_are_all_pieces(self):
        for library in quick_libraries() + [Library(("ab" * 50, "ba" * 30))]:
            self.assertEqual(sum(many_long(library, many) for many in range(1, 101)), all_pieces(library))

    def test_full_libraries(self):
        self.assertEqual(all_pieces(Library(("a" * 2000,))), 2000)
        self.assertEqual(piece_numbered(Library(("a" * 2000,)), 1999), "a" * 2000)
        self.assertEqual(number_of(Library(("a" * 2000,)), "a" * 1234), 1233)
        self.assertEqual(all_pieces(Library(("ab" * 1000,))), 2 * 1999 + 1)
        self.assertEqual(many_long(Library(("a" * 2000,)), 2000), 1)
        self.assertEqual(many_long(Library(("ab" * 1000,)), 2000), 1)
        self.assertEqual(many_long(Library(("ab" * 1000,)), 1999), 2)
        self.assertEqual(many_long(Library(("ab" * 500, "ba" * 500)), 1000), 2)
        self.assertEqual(many_long(Library(("ab" * 500, "ba" * 500)), 1001), 0)
        chance = random.Random(53)
        library = Library(("".join(chance.choice("abcd") for _ in range(1500)), "abcd" * 125))
        many = all_pieces(library)
        numbers = [0, 1, many // 2, many - 2, many - 1] + [chance.randrange(many) for _ in range(20)]
        pieces = [piece_numbered(library, number) for number in numbers]
        self.assertEqual([number_of(library, piece) for piece in pieces], numbers)
        self.assertEqual([piece for _, piece in sorted(zip(numbers, pieces))], sorted(pieces))

    def test_all_pieces_of_full_libraries(self):
        for library in full_libraries():
            if len(set("".join(library.texts))) < 3 and len(library.texts) == 1:
                continue
            lot = sum(len({text[at:at + many] for text in library.texts for at in range(len(text) - many + 1)})
                      for many in range(1, 2001))
            self.assertEqual(all_pieces(library), lot)

    def test_no_number(self):
        for library in small_libraries() + [Library(("a" * 2000,))]:
            top = all_pieces(library)
            for thing in odd_things() + [top, top + 1, -1, -top, True, False, "0", (0,), [0], 10 ** 19, b"0", 2001]:
                if type(thing) is not int or not 0 <= thing < top:
                    self.assertIs(type(error_of(self, piece_numbered, library, thing)), NoNumber)
                if type(thing) is not int or not 1 <= thing <= 2000:
                    self.assertIs(type(error_of(self, many_long, library, thing)), NoNumber)
            self.assertIs(type(error_of(self, many_long, library, 0)), NoNumber)
            self.assertIs(type(error_of(self, many_long, library, 2001)), NoNumber)
            many_long(library, 1)
            many_long(library, 2000)


if __name__ == "__main__":
    unittest.main()
