"""5.1, 5.2: the row of signs ahead of endings, and finding by it."""

import random
import unittest
from itertools import product

from everypiece.asks import span
from everypiece.errors import NoNumber, NoRow, NoSign, NoWord
from everypiece.libraries import Library
from everypiece.rows import found_behind, is_row, leads, less_than, many_ahead, row_ahead, told_back
from helper import (error_of, libraries, nested, odd_things, pieces_of, place_list, places_of, plain_order,
                    random_library, tiny_libraries)

SIGNS = "".join(chr(number) for number in range(32, 127))


def many_libraries():
    chance = random.Random(71)
    return libraries() + tiny_libraries() + [random_library(chance, chance.choice([30, 2000])) for _ in range(40)]


def plain_row(library):
    """The last signs of the texts, then the signs ahead of the endings, by Python's own sorting."""
    return tuple([text[-1] if text else "" for text in library.texts]
                 + [library.texts[text][at - 1] if at else "" for text, at in plain_order(library)])


def plain_leads(library):
    """The row's numbers of the endings that begin with the signs in the row, each looked for by its place."""
    many = len(library.texts)
    ranks = {place: many + number for number, place in enumerate(plain_order(library))}
    lasts = [(text, len(signs) - 1) for text, signs in enumerate(library.texts)]
    aheads = [(text, at - 1) for text, at in plain_order(library)]
    return tuple(ranks.get(place) for place in lasts + aheads)


def walked(row):
    """The library that the signs of a tuple spell, walked from each text's number on, as the document says."""
    many = row.count("")
    texts = []
    for number in range(many):
        signs = []
        while row[number]:
            sign = row[number]
            signs.append(sign)
            less = sum(other != "" and other < sign for other in row)
            number = many + less + sum(other == sign for other in row[:number])
        texts.append("".join(reversed(signs)))
    return Library(tuple(texts))


def right_row(thing):
    """Whether a tuple of signs and "" is the row of the library that its own signs spell."""
    return thing.count("") <= 8 and len(thing) - thing.count("") <= 2000 and plain_row(walked(thing)) == thing


class RowTest(unittest.TestCase):

    def test_by_hand(self):
        for texts, row, numbers in (
                ((), (), ()), (("",), ("",), (None,)), (("", ""), ("", ""), (None, None)),
                (("a",), ("a", ""), (1, None)), (("ab",), ("b", "", "a"), (2, None, 1)),
                (("a", "a"), ("a", "a", "", ""), (2, 3, None, None)),
                (("b", "", "ab"), ("b", "", "b", "", "", "a"), (4, None, 5, None, None, 3)),
                (("aaa",), ("a", "a", "a", ""), (1, 2, 3, None)),
                (("",) * 8, ("",) * 8, (None,) * 8), (("a" * 2000,), ("a",) * 2000 + ("",), None)):
            self.assertEqual(row_ahead(Library(texts)), row)
            self.assertIs(is_row(row), True)
            self.assertEqual(told_back(row).texts, texts)
            if numbers is not None:
                self.assertEqual(leads(row), numbers)

    def test_against_plain_sorting(self):
        for library in many_libraries():
            row = plain_row(library)
            self.assertEqual(row_ahead(library), row)
            self.assertIs(type(row_ahead(library)), tuple)
            self.assertEqual(leads(row), plain_leads(library))
            self.assertIs(type(leads(row)), tuple)
            self.assertEqual(row.count(""), len(library.texts))

    def test_told_back(self):
        for library in many_libraries():
            row = row_ahead(library)
            self.assertIs(is_row(row), True)
            self.assertEqual(told_back(row), library)
            self.assertEqual(row_ahead(told_back(row)), row)

    def test_fact_of_the_row(self):
        rows = {row_ahead(library): library.texts for library in many_libraries()}
        self.assertEqual(len(rows), len({library.texts for library in many_libraries()}))
        for library in many_libraries():
            row = row_ahead(library)
            numbers = leads(row)
            for text, signs in enumerate(library.texts):
                found, number = [], text
                while numbers[number] is not None:
                    found.append(row[number])
                    number = numbers[number]
                self.assertEqual("".join(found), signs[::-1])

    def test_all_small_tuples(self):
        """The rows among all tuples of a few signs are just those of all libraries with as many."""
        right = set()
        words = [word for many in range(7) for word in map("".join, product("ab", repeat=many))]
        for many in range(7):
            for sizes in product(range(7), repeat=many):
                if sum(sizes) + many <= 6:
                    lots = [[word for word in words if len(word) == size] for size in sizes]
                    right.update(plain_row(Library(texts)) for texts in product(*lots))
        for many in range(7):
            for thing in product(("", "a", "b"), repeat=many):
                self.assertIs(is_row(thing), thing in right, thing)

    def test_drawn_tuples(self):
        chance = random.Random(72)
        told = 0
        for _ in range(3000):
            signs = chance.sample(SIGNS, 3) + [""]
            thing = tuple(chance.choice(signs) for _ in range(chance.randint(0, 9)))
            self.check(thing)
            told += is_row(thing)
        self.assertTrue(100 < told < 2900)
        for _ in range(20):
            self.check(tuple(chance.choice(["a", "b", ""]) for _ in range(chance.randint(0, 80))))

    def check(self, thing):
        """A tuple of signs is judged as by plain test, and leads to its library or to errors."""
        right = right_row(thing)
        self.assertIs(is_row(thing), right, thing)
        if right:
            self.assertEqual(told_back(thing), walked(thing))
            self.assertEqual(leads(thing), plain_leads(walked(thing)))
        else:
            for call in (told_back, leads, lambda row: many_ahead(row, "a", 0), lambda row: less_than(row, "a"),
                         lambda row: found_behind(row, "a")):
                self.assertIs(type(error_of(self, call, thing)), NoRow)

    def test_spoiled_rows(self):
        chance = random.Random(73)
        for library in tiny_libraries()[::2] + [random_library(chance, 60) for _ in range(10)]:
            row = row_ahead(library)
            for _ in range(6 if row else 0):
                low, high = sorted(chance.choices(range(len(row)), k=2))
                self.check(row[:low] + row[low + 1:])
                self.check(row[:low] + (chance.choice(["", "a", "b", "~"]),) + row[low:])
                self.check(row[:low] + (row[high],) + row[low + 1:high] + (row[low],) + row[high + 1:])
                self.check(row[:low] + (chance.choice(["", "a", "b", "~"]),) + row[low + 1:])
                self.check(row[::-1])

    def test_bounds(self):
        for thing in (("",) * 9, ("a",) * 9 + ("",) * 9, ("a",) * 2001 + ("",), ("",) * 8 + ("a",) * 2001,
                      ("a",) * 2000, ("a",), ("a",) * 20000, ("",) * 20000, ("a", "") * 9, ("", "a")):
            self.assertIs(is_row(thing), False)
            for call in (told_back, leads):
                self.assertIs(type(error_of(self, call, thing)), NoRow)
        full = row_ahead(Library(("a" * 1999, "b") + ("",) * 6))
        self.assertIs(is_row(full), True)
        self.assertEqual(len(full), 2008)
        self.assertIs(is_row(full + ("",)), False)

    def test_no_rows(self):
        row = row_ahead(Library(("abab", "")))
        for thing in odd_things() + [list(row), "".join(row), ["", ""], ("ab", "", "b"), ("\n", ""), ("\x7f", ""),
                                     (b"a", ""), (("a",), ""), ("a", None), ("", 0), {"a": ""}, ["a", ""], "a"]:
            if thing != ():
                self.assertIs(is_row(thing), False)
                for call in (told_back, leads):
                    self.assertIs(type(error_of(self, call, thing)), NoRow)
            for number in range(len(row)):
                spoiled = row[:number] + (thing,) + row[number + 1:]
                if isinstance(thing, str) and thing.isprintable() and len(thing) < 2:
                    self.check(spoiled)
                else:
                    self.assertIs(is_row(spoiled), False)
                    self.assertIs(type(error_of(self, told_back, spoiled)), NoRow)


class FindingTest(unittest.TestCase):

    def test_by_hand(self):
        row = row_ahead(Library(("abab",)))
        self.assertEqual([many_ahead(row, "b", number) for number in range(6)], [0, 1, 2, 2, 2, 2])
        self.assertEqual([many_ahead(row, "a", number) for number in range(6)], [0, 0, 0, 0, 1, 2])
        self.assertEqual(many_ahead(row, "c", 5), 0)
        self.assertEqual([less_than(row, sign) for sign in " abc~"], [1, 1, 3, 5, 5])
        for word, right in (("ab", (1, 3)), ("b", (3, 5)), ("bab", (4, 5)), ("abab", (2, 3)), ("aa", (1, 1)),
                            ("bb", (5, 5)), ("c", (5, 5)), ("ca", (5, 5)), ("ac", (5, 5)), ("ababab", (5, 5)), ("aab", (1, 1))):
            self.assertEqual(found_behind(row, word), right, word)
        self.assertEqual(found_behind((), "ab"), (0, 0))
        self.assertEqual(found_behind(("", ""), "ab"), (2, 2))
        self.assertEqual(less_than((), "a"), 0)
        self.assertEqual(many_ahead((), "a", 0), 0)
        self.assertEqual(less_than(("", ""), " "), 2)

    def test_plain_counting(self):
        for library in tiny_libraries() + libraries():
            row = row_ahead(library)
            signs = sorted({sign for sign in row if sign} | set("a ~"))[:20]
            for sign in signs:
                texts = "".join(library.texts)
                self.assertEqual(less_than(row, sign), len(library.texts) + sum(other < sign for other in texts))
                seen = 0
                for number in range(len(row) + 1):
                    if number < 60 or number > len(row) - 3:
                        self.assertEqual(many_ahead(row, sign, number), seen)
                    seen += number < len(row) and row[number] == sign

    def plain_found(self, library, word):
        """The pair of the shortest ending of a word that is no piece, or of the word."""
        many = len(library.texts)
        for begin in range(len(word) - 1, -1, -1):
            low = sum((library.texts[text][at:], text) < (word[begin:], -1) for text, at in place_list(library)) + many
            stands = len(places_of(library, word[begin:]))
            if not stands:
                break
        return (low, low + stands)

    def test_fact_of_finding(self):
        for library in tiny_libraries():
            row = row_ahead(library)
            many = len(library.texts)
            for piece in pieces_of(library):
                low, behind = span(library, piece)
                self.assertEqual(found_behind(row, piece), (low + many, behind + many))
                self.assertEqual(found_behind(row, piece), self.plain_found(library, piece))

    def test_what_is_no_piece(self):
        chance = random.Random(74)
        for library in tiny_libraries():
            row = row_ahead(library)
            pieces = pieces_of(library) or ["a"]
            words = ["".join(chance.choice("ab ~") for _ in range(chance.randint(1, 6))) for _ in range(12)]
            words += [chance.choice(pieces) + chance.choice(pieces) for _ in range(6)] + ["a" * 2001]
            words += [chance.choice("ab~") + chance.choice(pieces) for _ in range(6)]
            for word in words:
                found = found_behind(row, word)
                self.assertEqual(found, self.plain_found(library, word), (library.texts, word))
                self.assertIs(type(found), tuple)

    def test_full_libraries(self):
        for library in libraries():
            row = row_ahead(library)
            for text in library.texts[:2]:
                for word in {text, text[:7], text[-3:], text[1:], text[:-1], text + "~", "~" + text, text * 2, "ab"}:
                    if word:
                        self.assertEqual(found_behind(row, word), self.plain_found_fast(library, word))
        self.assertEqual(found_behind(row_ahead(Library(("a" * 2000,))), "a" * 20000), (2001, 2001))

    def plain_found_fast(self, library, word):
        """As plain_found, the shortest ending that is no piece being looked for by halves."""
        short, long = 0, len(word)
        while short < long:
            middle = (short + long + 1) // 2
            if any(word[-middle:] in text for text in library.texts):
                short = middle
            else:
                long = middle - 1
        least = word[-min(short + 1, len(word)):]
        low = sum(library.texts[text][at:] < least for text, at in place_list(library)) + len(library.texts)
        return (low, low + len(places_of(library, least)))


class WrongTest(unittest.TestCase):

    def test_wrong_signs_numbers_and_words(self):
        row = row_ahead(Library(("abab", "b")))
        for thing in odd_things() + ["", "ab", "\n", "\x7f", b"a", ["a"], ("a",), 97, None, True, nested(40, tuple)]:
            if not (isinstance(thing, str) and len(thing) == 1 and " " <= thing <= "~"):
                self.assertIs(type(error_of(self, many_ahead, row, thing, 0)), NoSign)
                self.assertIs(type(error_of(self, less_than, row, thing)), NoSign)
            if not (isinstance(thing, str) and thing and all(" " <= sign <= "~" for sign in thing)):
                self.assertIs(type(error_of(self, found_behind, row, thing)), NoWord)
        for thing in odd_things() + [len(row) + 1, -1, True, False, "0", None, (0,), 10 ** 19, [0]]:
            if type(thing) is not int or not 0 <= thing <= len(row):
                self.assertIs(type(error_of(self, many_ahead, row, "a", thing)), NoNumber)
        self.assertEqual(many_ahead(row, "a", len(row)), 2)

    def test_order_of_errors(self):
        row = row_ahead(Library(("ab",)))
        for bad in (None, [], list(row), ("a",), ("",) * 9, ("", "a"), row + (None,), nested(40, tuple)):
            self.assertIs(type(error_of(self, many_ahead, bad, None, -1)), NoRow)
            self.assertIs(type(error_of(self, less_than, bad, "")), NoRow)
            self.assertIs(type(error_of(self, found_behind, bad, "")), NoRow)
            self.assertIs(type(error_of(self, leads, bad)), NoRow)
        for bad in (None, "", "ab", 0, ["a"], "\n"):
            self.assertIs(type(error_of(self, many_ahead, row, bad, -1)), NoSign)
            self.assertIs(type(error_of(self, many_ahead, row, bad, None)), NoSign)


if __name__ == "__main__":
    unittest.main()
