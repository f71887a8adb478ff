"""1.2: what is an edit, and what edits lead to."""

import unittest

from everypiece.edits import edited, is_edit, led
from everypiece.errors import BadEdits, NoEdit
from everypiece.libraries import Library
from helper import (error_of, libraries, nested, odd_things, plain_edit, small_libraries, some_edits_of, texts_of,
                    well_formed)

ABC = Library(("abc", "", "de"))

RIGHT = (
    (("put", 0, 0, "x"), ("xabc", "", "de")),
    (("put", 0, 3, "xy"), ("abcxy", "", "de")),
    (("put", 1, 0, " "), ("abc", " ", "de")),
    (("put", 2, 1, "~"), ("abc", "", "d~e")),
    (("put", 0, 1, "z" * 1995), ("a" + "z" * 1995 + "bc", "", "de")),
    (("cut", 0, 0, 1), ("bc", "", "de")),
    (("cut", 0, 0, 3), ("", "", "de")),
    (("cut", 0, 2, 1), ("ab", "", "de")),
    (("cut", 2, 1, 1), ("abc", "", "d")),
    (("change", 0, 0, "x"), ("xbc", "", "de")),
    (("change", 0, 1, "xy"), ("axy", "", "de")),
    (("change", 0, 0, "abc"), ("abc", "", "de")),
    (("change", 2, 1, "d"), ("abc", "", "dd")),
    (("come", ""), ("abc", "", "de", "")),
    (("come", "x y"), ("abc", "", "de", "x y")),
    (("come", "z" * 1995), ("abc", "", "de", "z" * 1995)),
    (("split", 0, 0), ("", "", "de", "abc")),
    (("split", 0, 1), ("a", "", "de", "bc")),
    (("split", 0, 3), ("abc", "", "de", "")),
    (("split", 1, 0), ("abc", "", "de", "")),
    (("join", 0, 2), ("abcde", "", "")),
    (("join", 2, 0), ("", "", "deabc")),
    (("join", 1, 0), ("", "abc", "de")),
    (("join", 0, 1), ("abc", "", "de")),
    (("move", 0, 0, 1, 2, 1), ("bc", "", "dae")),
    (("move", 0, 0, 3, 1, 0), ("", "abc", "de")),
    (("move", 0, 1, 2, 2, 2), ("a", "", "debc")),
    (("move", 0, 0, 1, 0, 2), ("bca", "", "de")),
    (("move", 0, 0, 2, 0, 1), ("cab", "", "de")),
    (("move", 0, 2, 1, 0, 0), ("cab", "", "de")),
    (("move", 0, 1, 1, 0, 1), ("abc", "", "de")),
    (("move", 0, 0, 3, 0, 0), ("abc", "", "de")),
)

WRONG = (
    ("put", 3, 0, "x"), ("put", 0, 4, "x"), ("put", 1, 1, "x"), ("put", -1, 0, "x"), ("put", 0, -1, "x"),
    ("put", 0, 0, ""), ("put", 0, 0, "\n"), ("put", 0, 0, "a\nb"), ("put", 0, 0, "z" * 1996), ("put", 0, 0, ("x",)),
    ("put", 0, 0, b"x"), ("put", 0, 0), ("put", 0, 0, "x", 0), ("put", False, 0, "x"), ("put", 0, True, "x"),
    ("cut", 0, 0, 0), ("cut", 0, 0, 4), ("cut", 0, 3, 1), ("cut", 1, 0, 1), ("cut", 3, 0, 1), ("cut", 0, 0, -1),
    ("cut", 0, -1, 1), ("cut", -1, 0, 1), ("cut", 0, 0, True), ("cut", 0, False, 1), ("cut", True, 0, 1),
    ("cut", 0, 0), ("cut", 0, 0, 1, 0), ("cut", 0, 0, "a"), ("cut", 0, 0, 10 ** 19), ("cut", 10 ** 19, 0, 1),
    ("change", 0, 0, ""), ("change", 0, 3, ""), ("change", 0, 0, "wxyz"), ("change", 0, 3, "x"), ("change", 1, 0, "x"),
    ("change", 3, 0, "x"), ("change", 0, 0, "\n"), ("change", 0, -1, "x"), ("change", -1, 0, "x"),
    ("change", 0, 0, 1), ("change", 0, 0), ("change", 0, 0, "x", "x"), ("change", 0, 0, "z" * 2001),
    ("come",), ("come", "a\n"), ("come", "\n"), ("come", None), ("come", 0), ("come", "a", "b"), ("come", "z" * 1996),
    ("come", ("a",)), ("come", b""),
    ("go",), ("go", 2), ("go", ""), ("go", None),
    ("split", 0, 4), ("split", 1, 1), ("split", 3, 0), ("split", 0, -1), ("split", -1, 0), ("split", 0),
    ("split", 0, 1, 1), ("split", True, 0), ("split", 0, False), ("split", 0, "1"),
    ("join", 0, 0), ("join", 1, 1), ("join", 0, 3), ("join", 3, 0), ("join", 0, -1), ("join", -1, 0), ("join", 0),
    ("join", 0, 1, 2), ("join", 0, True), ("join", False, 1), ("join", 0, None),
    ("move", 0, 0, 0, 2, 0), ("move", 0, 0, 4, 2, 0), ("move", 0, 3, 1, 2, 0), ("move", 1, 0, 1, 0, 0),
    ("move", 3, 0, 1, 0, 0), ("move", 0, 0, 1, 3, 0), ("move", 0, 0, 1, 2, 3), ("move", 0, 0, 1, 0, 3),
    ("move", 0, 0, 3, 0, 1), ("move", 0, 0, 1, 1, 1), ("move", 0, 0, 1, 2), ("move", 0, 0, 1, 2, 0, 0),
    ("move", -1, 0, 1, 2, 0), ("move", 0, -1, 1, 2, 0), ("move", 0, 0, -1, 2, 0), ("move", 0, 0, 1, -1, 0),
    ("move", 0, 0, 1, 2, -1), ("move", False, 0, 1, 2, 0), ("move", 0, False, 1, 2, 0), ("move", 0, 0, True, 2, 0),
    ("move", 0, 0, 1, True, 0), ("move", 0, 0, 1, 2, False),
    ("Put", 0, 0, "x"), ("puts", 0, 0, "x"), ("", 0, 0, "x"), (0, 0, 0, "x"), (None, 0, 0, "x"), (b"put", 0, 0, "x"),
    ("put ", 0, 0, "x"), (("put",), 0, 0, "x"), (["put"], 0, 0, "x"), (), ("put",), ("cut",), ("change",),
    ("split",), ("join",), ("move",), ("undo",), "go", "put", None, 0, True,
)

SPOILED = (None, True, False, -1, 10 ** 19, "", "\n", "a\n", b"a", [], [0], (), (0,), {}, {0: 0}, nested(30, list))


def right_edits():
    return [edit for edit, _ in RIGHT]


class IsEditTest(unittest.TestCase):

    def test_right_ones(self):
        for edit, texts in RIGHT:
            self.assertIs(is_edit(ABC, edit), True, edit)
            self.assertEqual(edited(ABC, edit).texts, texts, edit)
        self.assertEqual(ABC.texts, ("abc", "", "de"))

    def test_wrong_ones(self):
        for thing in list(WRONG) + odd_things():
            self.assertIs(is_edit(ABC, thing), False, thing)
            self.assertIs(type(error_of(self, edited, ABC, thing)), NoEdit)
            self.assertEqual(ABC.texts, ("abc", "", "de"))

    def test_a_list_is_none(self):
        for edit in right_edits():
            self.assertIs(is_edit(ABC, list(edit)), False)
            self.assertIs(type(error_of(self, edited, ABC, list(edit))), NoEdit)

    def test_one_part_spoiled(self):
        for edit in right_edits():
            for index in range(len(edit)):
                for part in SPOILED:
                    if edit[0] == "come" and part == "":
                        continue
                    thing = edit[:index] + (part,) + edit[index + 1:]
                    self.assertIs(is_edit(ABC, thing), False, thing)
                    self.assertIs(type(error_of(self, edited, ABC, thing)), NoEdit)

    def test_a_part_too_few_or_too_many(self):
        for edit in right_edits():
            for index in range(len(edit)):
                self.assertIs(is_edit(ABC, edit[:index] + edit[index + 1:]), False)
            for part in ("", 0, 1, "x", None):
                self.assertIs(is_edit(ABC, edit + (part,)), False)

    def test_flags_are_no_numbers(self):
        library = Library(("aaaa", "bbbb"))
        for edit in (("put", 1, 1, "x"), ("cut", 1, 1, 1), ("change", 1, 1, "x"), ("split", 1, 1), ("join", 1, 0),
                     ("join", 0, 1), ("move", 1, 1, 1, 1, 1)):
            self.assertIs(is_edit(library, edit), True)
            for index in range(1, len(edit)):
                if isinstance(edit[index], int):
                    flag = edit[index] == 1
                    self.assertIs(is_edit(library, edit[:index] + (flag,) + edit[index + 1:]), False)


class BoundsTest(unittest.TestCase):

    def test_go(self):
        self.assertEqual(edited(Library(("a", "")), ("go",)), Library(("a",)))
        self.assertEqual(edited(Library(("",)), ("go",)), Library(()))
        for texts in ((), ("a",), ("", "a")):
            self.assertIs(is_edit(Library(texts), ("go",)), False)

    def test_no_library_has_nine_texts(self):
        full = Library(("ab",) + ("",) * 7)
        for edit in (("come", ""), ("come", "a"), ("split", 0, 0), ("split", 0, 1), ("split", 0, 2), ("split", 1, 0)):
            self.assertIs(is_edit(full, edit), False)
            self.assertIs(type(error_of(self, edited, full, edit)), NoEdit)
            fewer = Library(full.texts[:7])
            self.assertIs(is_edit(fewer, edit), True)
        self.assertIs(is_edit(full, ("join", 7, 0)), True)
        self.assertIs(is_edit(full, ("go",)), True)

    def test_no_library_has_more_than_2000_signs(self):
        for texts in (("a" * 2000,), ("a" * 1000, "b" * 1000), ("c" * 1998, "", "dd")):
            full = Library(texts)
            for edit in (("put", 0, 0, "x"), ("put", 0, 1000, "xy"), ("come", "x")):
                self.assertIs(is_edit(full, edit), False)
                self.assertIs(type(error_of(self, edited, full, edit)), NoEdit)
            for edit in (("come", ""), ("change", 0, 0, "x"), ("split", 0, 1000), ("move", 0, 0, 7, 0, 90),
                         ("cut", 0, 0, 1)):
                self.assertIs(is_edit(full, edit), True)
        almost = Library(("a" * 1998,))
        self.assertEqual(edited(almost, ("put", 0, 1998, "xy")).texts, ("a" * 1998 + "xy",))
        self.assertEqual(edited(almost, ("come", "xy")).texts, ("a" * 1998, "xy"))
        self.assertIs(is_edit(almost, ("put", 0, 0, "xyz")), False)
        self.assertIs(is_edit(almost, ("come", "xyz")), False)

    def test_an_empty_library(self):
        empty = Library(())
        for edit in well_formed((0, 1), ("x",)):
            self.assertIs(is_edit(empty, edit), edit[0] == "come")


class PlainTest(unittest.TestCase):
    """Each tuple of the right form is, or is none, as a plain model of edits tells."""

    def check(self, library, edit):
        rows = plain_edit(library, edit)
        self.assertIs(is_edit(library, edit), rows is not None, edit)
        if rows is None:
            self.assertIs(type(error_of(self, edited, library, edit)), NoEdit)
        else:
            self.assertEqual(edited(library, edit), Library(texts_of(rows)), edit)

    def test_all_edits_of_small_libraries(self):
        for library in small_libraries():
            texts = library.texts
            for edit in well_formed(range(5), ("x", "ab", "abc")):
                self.check(library, edit)
            self.assertEqual(library.texts, texts)

    def test_edits_of_all_libraries(self):
        for library in libraries():
            for edit in some_edits_of(library):
                self.check(library, edit)
                long = max(map(len, library.texts), default=0)
                for index, part in enumerate(edit):
                    if isinstance(part, int):
                        for beyond in (part + 1, len(library.texts), long, long + 1):
                            if beyond != 0:
                                self.check(library, edit[:index] + (beyond,) + edit[index + 1:])


class LedTest(unittest.TestCase):

    def index_of(self, library, edits):
        error = error_of(self, led, library, edits)
        self.assertIs(type(error), BadEdits)
        return error.index

    def test_none(self):
        for library in libraries():
            self.assertEqual(led(library, ()), library)
            self.assertEqual(led(library, []), library)

    def test_one(self):
        for edit, texts in RIGHT:
            self.assertEqual(led(ABC, (edit,)).texts, texts)
            self.assertEqual(led(ABC, [edit]).texts, texts)

    def test_several(self):
        edits = [("put", 0, 1, "xy"), ("cut", 0, 0, 1), ("come", "q"), ("join", 1, 3), ("go",), ("split", 0, 2),
                 ("move", 0, 0, 2, 2, 1), ("change", 2, 0, "Z"), ("join", 0, 3)]
        texts = [("axybc", "", "de"), ("xybc", "", "de"), ("xybc", "", "de", "q"), ("xybc", "q", "de", ""),
                 ("xybc", "q", "de"), ("xy", "q", "de", "bc"), ("", "q", "dxye", "bc"), ("", "q", "Zxye", "bc"),
                 ("bc", "q", "Zxye", "")]
        for many in range(len(edits)):
            self.assertEqual(led(ABC, edits[:many + 1]).texts, texts[many])
            self.assertEqual(led(ABC, tuple(edits[:many + 1])).texts, texts[many])
        self.assertEqual(ABC.texts, ("abc", "", "de"))

    def test_many(self):
        edits = [("put", 0, 0, "x"), ("cut", 0, 0, 1)] * 500
        self.assertEqual(led(ABC, edits), ABC)

    def test_the_first_that_is_none_then(self):
        come = ("come", "")
        for made in (list, tuple):
            self.assertEqual(self.index_of(ABC, made([("go",)])), 0)
            self.assertEqual(self.index_of(ABC, made([("cut", 2, 0, 2), ("go",), ("put", 2, 0, "x")])), 2)
            self.assertEqual(self.index_of(ABC, made([come] * 6)), 5)
            self.assertEqual(self.index_of(ABC, made([("put", 0, 0, "x" * 1000)] * 3)), 1)
            self.assertEqual(self.index_of(ABC, made([("cut", 0, 0, 2), ("cut", 0, 0, 2)])), 1)
            self.assertEqual(self.index_of(ABC, made([come, None, 7])), 1)
        self.assertEqual(ABC.texts, ("abc", "", "de"))

    def test_right_only_behind_the_ones_ahead(self):
        edits = (("come", "x"), ("put", 3, 1, "y"), ("cut", 3, 0, 2), ("go",))
        self.assertEqual(led(ABC, edits), ABC)
        self.assertEqual(self.index_of(ABC, edits[1:]), 0)

    def test_odd_things_among_them(self):
        for thing in odd_things():
            self.assertEqual(self.index_of(ABC, [thing]), 0)
            self.assertEqual(self.index_of(ABC, (("come", "a"), thing, ("go",))), 1)

    def test_no_list_or_tuple(self):
        for thing in odd_things() + [{"go": 1}, "go", iter([("go",)])]:
            if not isinstance(thing, (list, tuple)):
                self.assertEqual(self.index_of(ABC, thing), -1)

    def test_an_edit_is_no_tuple_of_edits(self):
        self.assertEqual(self.index_of(ABC, ("put", 0, 0, "x")), 0)

    def test_edits_are_not_changed(self):
        edits = [("put", 0, 0, "x"), ("come", ""), ["go"]]
        self.assertEqual(self.index_of(ABC, edits), 2)
        self.assertEqual(edits, [("put", 0, 0, "x"), ("come", ""), ["go"]])


if __name__ == "__main__":
    unittest.main()
