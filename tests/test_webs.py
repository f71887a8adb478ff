"""7.1, 7.2: ties, webs, what they read, and the library turned about."""

import random
import unittest
from itertools import product

from everypiece.asks import count, first_place
from everypiece.classes import class_of, classes, down_tree, up_tree
from everypiece.errors import BadWeb, NoClass, NoWord
from everypiece.growers import Grower
from everypiece.libraries import Library, size, turned_about
from everypiece.shelves import Shelf
from everypiece.webs import Web, count_by, first_by, is_web, left_ties, read_by, right_ties, texts_by, web_of
from helper import (by_length, error_of, libraries, nested, neighbours, odd_things, pieces_of, places_of,
                    plain_classes, random_library, tiny_libraries)

WITHOUT = [Library(()), Library(("",)), Library(("",) * 8)]


def plain_rows(library):
    """The rows of the web, by all classes taken piece by piece."""
    found = plain_classes(library)
    homes = {piece: (number, longest.index(piece)) for number, (longest, pieces) in enumerate(found.items())
             for piece in pieces}
    rows = []
    for longest in found:
        places = places_of(library, longest)
        aheads, behinds = neighbours(library, longest, places)
        rows.append((longest, len(places), places[0],
                     tuple((sign,) + homes[longest + sign] for sign in sorted(set(behinds) - {""})),
                     tuple((sign,) + homes[sign + longest] for sign in sorted(set(aheads) - {""}))))
    return tuple(rows)


def is_num(thing):
    return type(thing) is int and thing >= 0


def is_plain_word(thing):
    return isinstance(thing, str) and thing != "" and all(" " <= sign <= "~" for sign in thing)


def headed(row):
    return type(row) is tuple and len(row) == 5 and is_plain_word(row[0])


def tied(rows, ties, made):
    """Whether ties are right, made telling the piece of a tie's sign."""
    if type(ties) is not tuple or any(type(tie) is not tuple or len(tie) != 3 for tie in ties):
        return False
    signs = [tie[0] for tie in ties]
    if not all(is_plain_word(sign) and len(sign) == 1 for sign in signs) or signs != sorted(set(signs)):
        return False
    for sign, home, offset in ties:
        if not (is_num(home) and home < len(rows) and headed(rows[home]) and is_num(offset)):
            return False
        if not (offset < len(rows[home][0]) and rows[home][0].startswith(made(sign), offset)):
            return False
    return True


def plain_bad(rows):
    """The index of the first row that is none, as the document says it, None if there is none."""
    for index, row in enumerate(rows):
        if not headed(row):
            return index
        longest, many, least, right, left = row
        fine = (is_num(many) and many > 0 and type(least) is tuple and len(least) == 2 and all(map(is_num, least))
                and tied(rows, right, lambda sign: longest + sign) and tied(rows, left, lambda sign: sign + longest)
                and (not index or by_length([rows[index - 1][0], longest])[0] != longest))
        if not fine:
            return index
    return None


class TiesTest(unittest.TestCase):

    def test_by_hand(self):
        library = Library(("abab",))
        self.assertEqual(right_ties(library, 0), (("a", 1, 0),))
        self.assertEqual(left_ties(library, 0), (("b", 1, 1),))
        self.assertEqual(right_ties(library, 1), ())
        self.assertEqual(left_ties(library, 1), ())
        library = Library(("xay", "zaw"))
        self.assertEqual(right_ties(library, 0), (("w", 2, 1), ("y", 1, 1)))
        self.assertEqual(left_ties(library, 0), (("x", 1, 0), ("z", 2, 0)))

    def test_against_pieces_taken_one_by_one(self):
        for library in tiny_libraries():
            rows = plain_rows(library)
            for number, row in enumerate(rows):
                self.assertEqual(right_ties(library, number), row[3])
                self.assertEqual(left_ties(library, number), row[4])
            self.assertEqual(web_of(library).rows, rows)
            self.assertIs(type(web_of(library)), Web)
            self.assertEqual(Web(rows), web_of(library))

    def test_no_class(self):
        for library in WITHOUT + [Library(("abab", "", "ba"))]:
            many = len(classes(library))
            for thing in odd_things() + [many, many + 1, -1, True, False, "0", None, 10 ** 19, [0], (0,)]:
                if type(thing) is not int or not 0 <= thing < many:
                    self.assertIs(type(error_of(self, right_ties, library, thing)), NoClass)
                    self.assertIs(type(error_of(self, left_ties, library, thing)), NoClass)

    def test_full_libraries(self):
        library = Library(("a" * 2000,))
        self.assertEqual(right_ties(library, 7), (("a", 8, 0),))
        self.assertEqual(left_ties(library, 1998), (("a", 1999, 0),))
        self.assertEqual(right_ties(library, 1999), ())
        for library in [other for other in libraries() if size(other) > 900]:
            found = classes(library)
            for number in range(0, len(found), max(1, len(found) // 3)):
                longest = found[number][0]
                aheads, behinds = neighbours(library, longest, places_of(library, longest))
                for ties, signs, many in ((right_ties(library, number), behinds, 0),
                                          (left_ties(library, number), aheads, 1)):
                    self.assertEqual([tie[0] for tie in ties], sorted(set(signs) - {""}))
                    for sign, home, offset in ties:
                        piece = sign + longest if many else longest + sign
                        self.assertEqual(class_of(library, piece), (home, offset))


class FactsTest(unittest.TestCase):

    def test_fact_of_webs(self):
        for library in tiny_libraries():
            web = web_of(library)
            pieces = pieces_of(library)
            for piece in pieces:
                self.assertEqual(read_by(web, piece), class_of(library, piece))
                self.assertEqual(count_by(web, piece), count(library, piece))
                self.assertEqual(first_by(web, piece), first_place(library, piece))
            self.assertEqual(texts_by(web), sorted(text for text in library.texts if text))
            self.assertIs(type(texts_by(web)), list)

    def test_what_is_no_piece_is_not_read(self):
        chance = random.Random(95)
        for library in tiny_libraries():
            web = web_of(library)
            pieces = pieces_of(library)
            words = [piece + sign for piece in pieces for sign in "ab~"] + [sign + piece for piece in pieces[:9]
                                                                            for sign in "ab~"]
            words += ["".join(chance.choice("abc") for _ in range(chance.randint(1, 7))) for _ in range(9)] + ["a" * 2001]
            for word in words:
                if not places_of(library, word):
                    self.assertIsNone(read_by(web, word))
                    self.assertEqual(count_by(web, word), 0)
                    self.assertIsNone(first_by(web, word))

    def test_all_words_of_few_signs(self):
        for library in tiny_libraries()[::9]:
            web = web_of(library)
            for many in range(1, 7):
                for word in map("".join, product("ab", repeat=many)):
                    self.assertEqual(read_by(web, word), class_of(library, word))

    def test_fact_of_turning(self):
        for library in tiny_libraries():
            self.check_turned(library)
        for library in libraries():
            if size(library) > 900:
                self.check_turned(library)

    def check_turned(self, library):
        turned = turned_about(library)
        rows, other_rows = web_of(library).rows, web_of(turned).rows
        numbers = {row[0]: number for number, row in enumerate(rows)}
        self.assertEqual(sorted(row[0][::-1] for row in other_rows), sorted(numbers))
        # The number in the library of each class of the one turned about.
        back = [numbers[row[0][::-1]] for row in other_rows]

        def turn(piece, home, offset):
            return (back[home], len(other_rows[home][0]) - offset - len(piece))

        for number, (longest, many, _, right, left) in enumerate(other_rows):
            row = rows[back[number]]
            self.assertEqual(row[1], many)
            self.assertEqual(row[4], tuple((sign,) + turn(longest + sign, home, offset) for sign, home, offset in right))
            self.assertEqual(row[3], tuple((sign,) + turn(longest + sign, home, offset) for sign, home, offset in left))
        ups, downs = up_tree(library), down_tree(library)
        for number, (father, mother) in enumerate(zip(up_tree(turned), down_tree(turned))):
            # All of these offsets are 0: such a part cannot be grown.
            self.assertEqual(downs[back[number]], father and (back[father[0]], 0))
            self.assertEqual(ups[back[number]], mother and (back[mother[0]], 0))

    def test_full_webs(self):
        chance = random.Random(96)
        for library in [other for other in libraries() if size(other) > 900] + [random_library(chance, 2000)]:
            web = web_of(library)
            self.assertEqual([row[:2] for row in web.rows], classes(library))
            self.assertEqual(texts_by(web), sorted(text for text in library.texts if text))
            self.assertIs(is_web(library, web), True)
            for text in library.texts[:2]:
                for at in (0, len(text) // 3):
                    for many in (1, 5, len(text)):
                        piece = text[at:at + many]
                        if piece:
                            self.assertEqual(read_by(web, piece), class_of(library, piece))
                            self.assertEqual(first_by(web, piece), first_place(library, piece))
                            self.assertEqual(count_by(web, piece), count(library, piece))
                            self.assertEqual(count_by(web, piece + "\\"), count(library, piece + "\\"))


class OwnWebsTest(unittest.TestCase):
    """Webs that are of no library."""

    def test_by_hand(self):
        web = Web((("ab", 5, (3, 7), (("a", 2, 0), ("c", 1, 0)), ()), ("abc", 2, (0, 9), (), ()),
                   ("abab", 9, (1, 0), (), (("x", 3, 1),)), ("yxabab", 4, (10 ** 19, 3), (("z", 4, 3),), ()),
                   ("abcyxababz", 1, (0, 0), (), ())))
        for word, read, many, first in (
                ("a", (0, 0), 5, (3, 7)), ("b", (0, 1), 5, (3, 8)), ("aba", (2, 0), 9, (1, 0)),
                ("bab", (2, 1), 9, (1, 1)), ("bc", (1, 1), 2, (0, 10)), ("x", (3, 1), 4, (10 ** 19, 4)),
                ("c", (1, 2), 2, (0, 11)), ("yxababz", (4, 3), 1, (0, 3)), ("xababz", (4, 4), 1, (0, 4)),
                ("z", (4, 9), 1, (0, 9))):
            self.assertEqual(read_by(web, word), read, word)
            self.assertEqual(count_by(web, word), many)
            self.assertEqual(first_by(web, word), first)
        for word in ("d", "aa", "ad", "ababa", "abca", "cy", "zz", "abb", "bb"):
            self.assertIsNone(read_by(web, word))
            self.assertEqual(count_by(web, word), 0)
            self.assertIsNone(first_by(web, word))

    def test_first_offset_and_least_row(self):
        web = Web((("aba", 1, (0, 0), (), ()), ("aaaa", 7, (0, 0), (), ())))
        self.assertEqual(read_by(web, "a"), (0, 0))
        self.assertEqual(read_by(web, "b"), (0, 1))
        self.assertIsNone(read_by(web, "aa"))
        self.assertEqual(count_by(web, "ba"), 1)

    def test_texts_by(self):
        self.assertEqual(texts_by(Web(())), [])
        self.assertEqual(texts_by(Web((("a", 3, (0, 0), (), ()), ("bb", 2, (0, 0), (), ())))),
                         ["a", "a", "a", "bb", "bb"])
        # Less 2 for the left tie, less 4 for the right ones, and 1 for what goes on behind the left tie's piece.
        web = Web((("a", 8, (0, 0), (("b", 1, 0), ("c", 2, 0)), (("x", 3, 0),)), ("ab", 3, (0, 0), (), ()),
                   ("ac", 1, (0, 0), (), ()), ("xab", 2, (0, 0), (), ())))
        self.assertEqual(texts_by(web), ["a"] * (8 - 2 - 4 + 2) + ["ab"] * 3 + ["ac"] + ["xab"] * 2)
        # The left tie's piece ends its longest there: it goes on by the ties of that row.
        web = Web((("a", 8, (0, 0), (), (("x", 1, 0),)), ("xa", 6, (0, 0), (("b", 2, 0), ("c", 3, 1)), ()),
                   ("xab", 1, (0, 0), (), ()), ("yxac", 3, (0, 0), (), ())))
        self.assertEqual(texts_by(web), ["a"] * (8 - 6 + 4) + ["xa"] * (6 - 4) + ["xab"] + ["yxac"] * 3)
        # Less than none.
        web = Web((("a", 1, (0, 0), (), (("x", 1, 0),)), ("xa", 6, (0, 0), (), ())))
        self.assertEqual(texts_by(web), ["xa"] * 6)


class BadWebTest(unittest.TestCase):

    def check(self, rows):
        """Rows make a web, or the right error."""
        bad = plain_bad(rows) if isinstance(rows, tuple) else -1
        if bad is None:
            self.assertIs(Web(rows).rows, rows)
        else:
            error = error_of(self, Web, rows)
            self.assertIs(type(error), BadWeb)
            self.assertEqual(error.index, bad, rows)
        return bad

    def test_no_tuple(self):
        for thing in odd_things() + [[], [("a", 1, (0, 0), (), ())], {}, "a", None, nested(40, list)]:
            if not isinstance(thing, tuple):
                error = error_of(self, Web, thing)
                self.assertIs(type(error), BadWeb)
                self.assertEqual(error.index, -1)
        self.assertEqual(Web(()).rows, ())

    def test_by_hand(self):
        one, two = ("a", 3, (0, 0), (("b", 1, 0),), ()), ("ab", 1, (0, 2), (), ())
        self.assertIsNone(self.check((one, two)))
        for rows, index in (
                ((two, one), 1), ((one,), 0), ((two, two), 1), ((one, one, two), 0), ((one, None), 0), ((one, "ab"), 0),
                ((one, ("ab",)), 0), ((one, ("ab", 0, 0, 0, 0)), 1), ((one, ("ab", 1, (0, 2), ())), 0),
                ((one, list(two)), 0), ((one, two, ("b", 1, (0, 0), (), ())), 2), ((one, two, ("ac", 0, (0, 0), (), ())), 2),
                ((one, two, two), 2), ((one, two, ("ab", 2, (0, 0), (), ())), 2), ((one, two, None), 2),
                ((one, ("", 1, (0, 2), (), ())), 0), ((one, ("a\n", 1, (0, 2), (), ())), 0), ((None, one), 0),
                ((("b", 1, (0, 0), (), ()), ("a", 1, (0, 0), (), ())), 1), ((one, ("ac", 1, (0, 0), (), ())), 0),
                ((("ab", 1, (0, 0), (), ()), ("c", 1, (0, 0), (), ())), 1)):
            self.assertEqual(self.check(rows), index, rows)

    def test_each_part_spoiled(self):
        rows = web_of(Library(("xay", "zaw", "xa"))).rows
        self.assertIsNone(self.check(rows))
        for index in range(len(rows)):
            for part in range(5):
                for thing in odd_things() + [-1, 0, 1, 2, True, None, "x", "a", "xa", "xay", "xax", "q", (0, 0), [0, 0],
                                             (0, -1), (0, True), (None, 0), (), [], list(rows[index][4])]:
                    spoiled = rows[index][:part] + (thing,) + rows[index][part + 1:]
                    self.check(rows[:index] + (spoiled,) + rows[index + 1:])
            for thing in odd_things() + [None, [], list(rows[index]), rows[index][:4], rows[index] + (0,)]:
                self.check(rows[:index] + (thing,) + rows[index + 1:])
            self.check(rows[:index] + rows[index + 1:])
            self.check(rows[:index] + (rows[index],) + rows[index:])

    def test_each_tie_spoiled(self):
        rows = web_of(Library(("xay", "zaw", "xa"))).rows
        for index, row in enumerate(rows):
            for part in (3, 4):
                for number, tie in enumerate(row[part]):
                    for at in range(3):
                        for thing in odd_things() + [-1, 0, 1, 2, 3, 4, 5, True, False, None, "a", "x", "z", "", "~",
                                                     10 ** 19, len(rows), (0,), [1]]:
                            self.check_tie(rows, index, part, number, tie[:at] + (thing,) + tie[at + 1:])
                    for thing in odd_things() + [list(tie), tie[:2], tie + (0,), None]:
                        self.check_tie(rows, index, part, number, thing)
                turned = rows[:index] + (row[:part] + (row[part][::-1],) + row[part + 1:],) + rows[index + 1:]
                self.assertEqual(self.check(turned), index if len(row[part]) > 1 else None)
                twice = rows[:index] + (row[:part] + (row[part] * 2,) + row[part + 1:],) + rows[index + 1:]
                self.assertEqual(self.check(twice), index if row[part] else None)
                fewer = rows[:index] + (row[:part] + (row[part][1:],) + row[part + 1:],) + rows[index + 1:]
                self.assertIsNone(self.check(fewer))

    def check_tie(self, rows, index, part, number, tie):
        row = rows[index]
        ties = row[part][:number] + (tie,) + row[part][number + 1:]
        self.check(rows[:index] + (row[:part] + (ties,) + row[part + 1:],) + rows[index + 1:])

    def test_drawn_spoils(self):
        chance = random.Random(97)
        bad, fine = 0, 0
        for library in tiny_libraries()[::2]:
            rows = web_of(library).rows
            for _ in range(12 if rows else 0):
                spoiled = self.spoiled(chance, rows)
                told = self.check(spoiled)
                bad, fine = bad + (told is not None), fine + (told is None)
        self.assertGreater(min(bad, fine), 100)

    def spoiled(self, chance, thing):
        """A thing with one of its parts, or of theirs, exchanged for another one."""
        if isinstance(thing, tuple) and thing and chance.random() < 0.8:
            at = chance.randrange(len(thing))
            return thing[:at] + (self.spoiled(chance, thing[at]),) + thing[at + 1:]
        if type(thing) is int:
            return chance.choice([thing + 1, thing - 1, True, None, str(thing), 0, 1])
        if isinstance(thing, str):
            return chance.choice([thing + "a", thing[1:], "a", "b", thing[::-1], None, [thing]])
        return chance.choice([list(thing), thing[1:], thing[::-1], thing * 2, None, thing + (0,)])

    def test_deep_and_large_things(self):
        for thing in (nested(40, tuple), nested(40, list), nested(40, dict), (nested(39, tuple),) * 9,
                      tuple([("a" * (number + 1), 1, (0, 0), (), ()) for number in range(140)]) + ([],)):
            self.check(thing)
            self.check((thing,))
        row = ("a" * 20000, 10 ** 19, (10 ** 19, 0), (), ())
        self.assertEqual(count_by(Web((row,)), "a" * 20000), 10 ** 19)
        self.assertIsNone(read_by(Web((row,)), "a" * 19999 + "b"))
        self.check((("a", 1, (0, 0), (("a", 1, 10 ** 19),), ()), row))
        self.check((("a", 1, (0, 0), (("a", 1, 19998),), (("a", 1, 19999),)), row))


class JudgingTest(unittest.TestCase):

    def test_is_web(self):
        found = tiny_libraries()[::12]
        webs = [web_of(library) for library in found]
        for library in found:
            for other, web in zip(found, webs):
                like = web.rows == plain_rows(library)
                self.assertIs(is_web(library, web), like)
                self.assertIs(web == web_of(library), like)
            for thing in odd_things() + [web_of(library).rows, list(web_of(library).rows), library, [web_of(library)]]:
                self.assertIs(is_web(library, thing), isinstance(thing, Web) and thing.rows == plain_rows(library))
        for library in WITHOUT:
            self.assertIs(is_web(library, Web(())), True)

    def test_a_web_with_less(self):
        library = Library(("xay", "zaw"))
        rows = web_of(library).rows
        for index, row in enumerate(rows):
            for part, thing in ((1, 9), (2, (5, 5)), (3, ()), (4, ())):
                other = Web(rows[:index] + (row[:part] + (thing,) + row[part + 1:],) + rows[index + 1:])
                self.assertIs(is_web(library, other), other.rows == rows)
                self.assertIs(other == web_of(library), other.rows == rows)

    def test_equal_to_nothing_of_another_kind(self):
        web = web_of(Library(("abab",)))
        for thing in odd_things() + [web.rows, Library(("abab",)), Shelf(Library(("abab",))), Grower()]:
            self.assertIs(web == thing, False)
            self.assertIs(thing == web, False)
        self.assertEqual(web, Web(web.rows))
        self.assertEqual(list(vars(web)), ["rows"])

    def test_no_word(self):
        for web in (Web(()), web_of(Library(("abab", "b")))):
            for thing in odd_things() + ["", "\n", "a\n", "\x7f", b"a", ["a"], ("a",), None, 0, nested(40, tuple)]:
                if not is_plain_word(thing):
                    for function in (read_by, count_by, first_by):
                        self.assertIs(type(error_of(self, function, web, thing)), NoWord)
            self.assertIsNone(read_by(web, "zz"))


if __name__ == "__main__":
    unittest.main()
