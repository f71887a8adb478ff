"""1.2: edits that lead back, and from a library to another one."""

import unittest

from everypiece.edits import edited, is_edit, leading, leading_back, led
from everypiece.errors import NoEdit
from everypiece.libraries import Library
from helper import WORDS, edits_of, error_of, libraries, odd_things, plain_edit, small_libraries, texts_of, well_formed


def plain_led(library, edits):
    """The library behind edits by the plain model; each must be right at its turn."""
    for edit in edits:
        library = Library(texts_of(plain_edit(library, edit)))
    return library


class LeadingBackTest(unittest.TestCase):

    def check(self, library, edit):
        back = leading_back(library, edit)
        self.assertIs(type(back), tuple)
        self.assertLessEqual(len(back), 2)
        behind = edited(library, edit)
        at_turn = behind
        for one in back:
            self.assertIs(is_edit(at_turn, one), True, (library.texts, edit, back))
            at_turn = edited(at_turn, one)
        self.assertEqual(at_turn, library)
        self.assertEqual(plain_led(behind, back), library)

    def test_all_edits_of_small_libraries(self):
        for library in small_libraries():
            for edit in well_formed(range(5), ("x", "ab")):
                if is_edit(library, edit):
                    self.check(library, edit)

    def test_edits_of_all_libraries(self):
        kinds = []
        for library in libraries():
            for edit in edits_of(library):
                self.check(library, edit)
                kinds.append(edit[0])
        self.assertEqual(sorted(set(kinds)), sorted(WORDS))

    def test_full_libraries(self):
        signs = Library(("ab" * 1000, ""))
        for edit in (("cut", 0, 0, 2000), ("cut", 0, 999, 2), ("change", 0, 0, "z" * 2000), ("come", ""), ("go",),
                     ("split", 0, 0), ("split", 0, 2000), ("split", 0, 1), ("join", 1, 0), ("join", 0, 1),
                     ("move", 0, 0, 2000, 0, 0), ("move", 0, 5, 1000, 1, 0), ("move", 0, 1999, 1, 0, 0)):
            self.check(signs, edit)
        texts = Library(("abc", "d", "", "efg", "", "", "h", ""))
        for edit in (("go",), ("join", 0, 1), ("join", 7, 0), ("move", 0, 0, 3, 7, 0), ("cut", 6, 0, 1),
                     ("put", 7, 0, "x")):
            self.check(texts, edit)

    def test_no_edit(self):
        for library in (Library(()), Library(("abab",)), Library(("a" * 2000,)), Library(("",) * 8)):
            for thing in odd_things() + [("put", 9, 0, "x"), ("cut", 0, 0, 0), ["come", ""], ("come", "a" * 2001),
                                         ("go", 1), ("join", 0, 0)]:
                self.assertIs(type(error_of(self, leading_back, library, thing)), NoEdit)


class LeadingTest(unittest.TestCase):

    def check(self, one, other):
        texts, other_texts = one.texts, other.texts
        edits = leading(one, other)
        self.assertIs(type(edits), tuple)
        self.assertLessEqual(len(edits), 40)
        if len(texts) == len(other_texts):
            self.assertLessEqual(len(edits), 2 * len(texts))
        self.assertEqual(led(one, edits), other)
        self.assertEqual(plain_led(one, edits), other)
        self.assertEqual((one.texts, other.texts), (texts, other_texts))

    def test_each_to_each_other(self):
        for one in libraries():
            for other in libraries():
                self.check(one, other)

    def test_full_ones(self):
        full = [Library(texts) for texts in (
            ("a" * 250,) * 8, ("b" * 250,) * 8, ("b" * 1993,) + ("c",) * 7, ("c",) * 7 + ("b" * 1993,),
            ("d" * 2000,) + ("",) * 7, ("",) * 7 + ("d" * 2000,), ("x" * 2000,), ("y" * 2000,), ("",) * 8, ())]
        for one in full:
            for other in full:
                self.check(one, other)

    def test_texts_that_change_their_places(self):
        self.check(Library(("a" * 1000, "b" * 1000)), Library(("b" * 1000, "a" * 1000)))
        self.check(Library(("a" * 1999, "b")), Library(("b", "a" * 1999)))

    def test_to_itself(self):
        for library in libraries():
            self.check(library, Library(library.texts))


if __name__ == "__main__":
    unittest.main()
