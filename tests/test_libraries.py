"""1.1: libraries, places, words."""

import unittest

from everypiece.errors import BadLibrary, NoPlace, NoWord
from everypiece.libraries import Library, size, stands, turned_about
from helper import error_of, libraries, nested, odd_things

SIGNS = "".join(chr(number) for number in range(32, 127))


class LibraryTest(unittest.TestCase):

    def part_of(self, texts):
        error = error_of(self, Library, texts)
        self.assertIs(type(error), BadLibrary)
        return error.part

    def test_texts(self):
        for texts in ((), ("",), ("abab",), ("", "a", ""), ("a",) * 8, ("",) * 8, (SIGNS,), ("a" * 2000,),
                      ("a" * 2000,) + ("",) * 7, ("b" * 250,) * 8):
            library = Library(texts)
            self.assertEqual(library.texts, texts)
            self.assertIs(type(library.texts), tuple)

    def test_just_the_signs_are_signs(self):
        for number in range(256):
            sign = chr(number)
            if 32 <= number <= 126:
                self.assertEqual(Library((sign,)).texts, (sign,))
            else:
                self.assertEqual(self.part_of(("a", "b" + sign)), 1)

    def test_no_tuple_of_at_most_8_things(self):
        for thing in ([], ["a"], ("a",) * 9, ("",) * 9, (1,) * 9, ("a" * 2000,) * 9, "a", "", None, True, False, 0, 5,
                      b"a", {}, {0: "a"}, range(2), Library(("a",)), nested(40, list), nested(40, dict), tuple):
            self.assertEqual(self.part_of(thing), -1)
            self.assertIs(type(self.part_of(thing)), int)

    def test_the_first_thing_that_is_no_string_of_signs(self):
        for thing in odd_things() + ["a\nb", "\n", "a\tb", "\x7f", "\xe4"]:
            if isinstance(thing, str) and "\n" not in thing and thing.isprintable() and thing.isascii():
                continue
            self.assertEqual(self.part_of((thing,)), 0)
            self.assertEqual(self.part_of(("a", "", thing, thing)), 2)
            self.assertEqual(self.part_of(("",) * 7 + (thing,)), 7)

    def test_a_part_is_a_number_of_a_text(self):
        self.assertEqual(self.part_of(((),)), 0)
        self.assertEqual(self.part_of((("a",),)), 0)
        self.assertEqual(self.part_of(nested(40, tuple)), 0)

    def test_more_than_2000_signs(self):
        for texts in (("a" * 2001,), ("a" * 2000, "b"), ("", "a" * 1000, "", "b" * 1001), ("a" * 251,) + ("b" * 250,) * 7,
                      ("a" * 20000,)):
            self.assertEqual(self.part_of(texts), "long")

    def test_which_comes_first(self):
        self.assertEqual(self.part_of((None,) * 9), -1)
        self.assertEqual(self.part_of(("a" * 2001,) * 9), -1)
        self.assertEqual(self.part_of(("a" * 2001, None)), 1)
        self.assertEqual(self.part_of(("a" * 2001, "b" * 2001, "\n", 0)), 2)
        self.assertEqual(self.part_of(("a" * 2000 + "\n",)), 0)

    def test_equal_exactly_if_the_texts_are(self):
        for number, one in enumerate(libraries()):
            for other_number, other in enumerate(libraries()):
                self.assertIs(one == other, number == other_number)
                self.assertIs(one != other, number != other_number)

    def test_equal_to_nothing_of_another_kind(self):
        class Other:
            texts = ("ab", "")
        library = Library(("ab", ""))
        for thing in odd_things() + [("ab", ""), ["ab", ""], Other()]:
            if not isinstance(thing, Library):
                self.assertIs(library == thing, False)
                self.assertIs(thing == library, False)
                self.assertIs(library != thing, True)

    def test_what_fails_makes_nothing(self):
        texts = ["a"]
        error_of(self, Library, texts)
        self.assertEqual(texts, ["a"])


class SizeTest(unittest.TestCase):

    def test_size(self):
        for texts, signs in (((), 0), (("",), 0), (("", ""), 0), (("a",), 1), (("abab", "", "ab"), 6),
                             (("a" * 250,) * 8, 2000), (("a" * 2000,), 2000)):
            self.assertEqual(size(Library(texts)), signs)

    def test_turned_about(self):
        for texts, turned in (((), ()), (("",), ("",)), (("abc", "", "de"), ("cba", "", "ed")), (("aab",), ("baa",)),
                              (("ab" * 1000,), ("ba" * 1000,))):
            library = Library(texts)
            self.assertEqual(turned_about(library), Library(turned))
            self.assertEqual(library.texts, texts)

    def test_turned_twice(self):
        for library in libraries():
            self.assertEqual(turned_about(turned_about(library)), library)
            self.assertEqual(size(turned_about(library)), size(library))


class StandsTest(unittest.TestCase):

    def test_at_each_place(self):
        library = Library(("abab", "", "ba"))
        words = ("a", "b", "ab", "ba", "aba", "bab", "abab", "baba", "ababa", "abab" * 9, "c", " ", "A", "ab ")
        for text, signs in enumerate(library.texts):
            for at in range(len(signs)):
                for word in words:
                    plain = len(word) <= len(signs) - at and all(
                        signs[at + number] == sign for number, sign in enumerate(word))
                    self.assertIs(stands(library, word, (text, at)), plain)

    def test_all_endings_stand(self):
        for library in libraries():
            for text, signs in enumerate(library.texts):
                for at in sorted({0, len(signs) // 2, len(signs) - 1}):
                    if 0 <= at < len(signs):
                        self.assertIs(stands(library, signs[at:], (text, at)), True)
                        self.assertIs(stands(library, signs[at:] + "a", (text, at)), False)

    def test_a_word_does_not_go_on_in_the_next_text(self):
        self.assertIs(stands(Library(("ab", "cd")), "bc", (0, 1)), False)

    def test_signs_of_patterns_are_plain_signs(self):
        library = Library(("a?[.*\\",))
        self.assertIs(stands(library, "a?[.*\\", (0, 0)), True)
        self.assertIs(stands(library, ".", (0, 0)), False)

    def test_no_word(self):
        for library in libraries():
            for thing in ("", "\n", "a\n", "\na", "a\tb", None, True, 0, b"a", ["a"], ("a",), {"a": 1}, library,
                          nested(40, list)):
                for place in ((0, 0), (9, 9), None):
                    self.assertIs(type(error_of(self, stands, library, thing, place)), NoWord)

    def test_no_place(self):
        library = Library(("abab", "", "ba"))
        for thing in ((0, 4), (0, 5), (1, 0), (2, 2), (3, 0), (-1, 0), (0, -1), (-3, 0), (0, True), (False, 0),
                      (True, 0), (0, False), [0, 0], (0,), (0, 0, 0), (), "00", ("0", 0), (0, None), (0, (0,)),
                      (10 ** 19, 0), (0, 10 ** 19), range(2), {0: 0, 1: 0}, None, 0):
            self.assertIs(type(error_of(self, stands, library, "a", thing)), NoPlace)
        for thing in odd_things():
            self.assertIs(type(error_of(self, stands, library, "a", thing)), NoPlace)

    def test_libraries_without_signs_have_no_place(self):
        for texts in ((), ("",), ("", "")):
            for place in ((0, 0), (1, 0), (0, 1)):
                self.assertIs(type(error_of(self, stands, Library(texts), "a", place)), NoPlace)


if __name__ == "__main__":
    unittest.main()
