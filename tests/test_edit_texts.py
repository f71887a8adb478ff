"""10.2: the texts of edits."""

import random
import re
import unittest

from everypiece.errors import NoEdit
from everypiece.libraries import Library
from everypiece.saves import edit_text, read_edit
from helper import WORDS, error_of, nested, odd_things, random_edit, random_library, well_formed

NUMBER = "(0|[1-9][0-9]{0,3})"
MANY = "([1-9][0-9]{0,3})"
FORMS = {
    "put": f"{NUMBER} {NUMBER} ([ -~]+)", "cut": f"{NUMBER} {NUMBER} {MANY}", "change": f"{NUMBER} {NUMBER} ([ -~]+)",
    "come": "([ -~]*)", "go": None, "split": f"{NUMBER} {NUMBER}", "join": f"{NUMBER} {NUMBER}",
    "move": f"{NUMBER} {NUMBER} {MANY} {NUMBER} {NUMBER}",
}


def plain_read(text):
    """The tuple of a text, by regular expressions."""
    for word, form in FORMS.items():
        found = re.fullmatch(word if form is None else f"{word} {form}", text, re.ASCII)
        if found:
            last = len(found.groups()) - 1
            parts = tuple(part if word == "come" or index == last and word in ("put", "change") else int(part)
                          for index, part in enumerate(found.groups()))
            return None if word == "join" and parts[0] == parts[1] else (word,) + parts
    return None


class EditTextTest(unittest.TestCase):

    def test_by_hand(self):
        for edit, text in (
                (("put", 0, 1, "x"), "put 0 1 x"), (("put", 9999, 0, " "), "put 9999 0  "),
                (("put", 3, 10, " 1 2 "), "put 3 10  1 2 "), (("put", 0, 0, "0"), "put 0 0 0"),
                (("cut", 7, 1999, 1), "cut 7 1999 1"), (("cut", 0, 0, 9999), "cut 0 0 9999"),
                (("change", 0, 0, "put 0 0 a"), "change 0 0 put 0 0 a"), (("come", ""), "come "), (("come", " "), "come  "),
                (("come", "come "), "come come "), (("go",), "go"), (("split", 0, 9999), "split 0 9999"),
                (("join", 0, 1), "join 0 1"), (("join", 9999, 0), "join 9999 0"), (("move", 0, 1, 2, 0, 4), "move 0 1 2 0 4")):
            self.assertEqual(edit_text(edit), text)
            self.assertEqual(read_edit(text), edit)

    def test_all_kinds_are_read_back(self):
        found = well_formed((0, 1, 10, 9999), ("a", " ", " a ", "0", "1 2", "~" * 20, "x" * 2001))
        self.assertEqual(sorted({edit[0] for edit in found}), sorted(WORDS))
        for edit in found:
            if edit[0] == "join" and edit[1] == edit[2]:
                self.assertIs(type(error_of(self, edit_text, edit)), NoEdit)
                self.assertIsNone(read_edit(" ".join(map(str, edit))))
                continue
            text = edit_text(edit)
            self.assertEqual(text, " ".join(map(str, edit)))
            self.assertEqual(read_edit(text), edit)
            self.assertEqual([type(part) for part in read_edit(text)], [type(part) for part in edit])

    def test_spoiled_in_one_part(self):
        for edit in (("put", 0, 1, "x"), ("cut", 0, 1, 2), ("change", 0, 1, "x"), ("come", "x"), ("go",), ("split", 0, 1),
                     ("join", 0, 1), ("move", 0, 1, 2, 3, 4)):
            for index in range(len(edit)):
                spoils = [None, True, False, -1, 10000, 10 ** 19, (), [], {}, b"x", ("x",), "a\n", "\n"]
                spoils += ["", "PUT", "puts", 0] if index == 0 else [] if type(edit[index]) is int else [1, 0]
                spoils += ["0", "1"] if type(edit[index]) is int else []
                spoils += [0] if (edit[0], index) in (("cut", 3), ("move", 3)) else []
                spoils += [""] if (edit[0], index) in (("put", 3), ("change", 3)) else []
                for thing in spoils:
                    spoiled = edit[:index] + (thing,) + edit[index + 1:]
                    self.assertIs(type(error_of(self, edit_text, spoiled)), NoEdit, spoiled)
            for thing in (list(edit), edit + (0,), edit + ("",), edit[:-1], (edit,), edit[0], edit_text(edit)):
                self.assertIs(type(error_of(self, edit_text, thing)), NoEdit, thing)
        for thing in odd_things():
            self.assertIs(type(error_of(self, edit_text, thing)), NoEdit)
            for edit in (("put", 0, 1, thing), ("put", thing, thing, "x"), (thing, 0, 1, "x"), ("go", thing)):
                fine = edit[0] == "put" and edit[1] == 0 and isinstance(thing, str) and thing.isprintable() and thing
                fine = fine or edit[0] == "put" and type(thing) is int and thing in (0, 1, 7)
                if not fine:
                    self.assertIs(type(error_of(self, edit_text, edit)), NoEdit, edit)

    def test_edits_that_no_library_has(self):
        for edit in (("put", 9, 9999, "x"), ("cut", 9999, 9999, 9999), ("move", 9, 9, 9, 9, 9), ("come", "x" * 20000)):
            self.assertEqual(read_edit(edit_text(edit)), edit)

    def test_edits_of_libraries(self):
        chance = random.Random(110)
        for _ in range(300):
            library = random_library(chance, chance.choice([9, 2000])) if chance.random() < 0.9 else Library(())
            edit = random_edit(chance, library)
            self.assertEqual(read_edit(edit_text(edit)), edit)
            self.assertEqual(plain_read(edit_text(edit)), edit)


class ReadEditTest(unittest.TestCase):

    def test_by_hand(self):
        for text in ("", " ", "go ", " go", "GO", "g", "goo", "come", "Come a", "put 0 1", "put 0 1 ", "put 0  1 x",
                     "put 00 1 x", "put 0 01 x", "put 10000 0 x", "put -1 0 x", "put +1 0 x", "put 1_0 0 x", "put 0 1\tx",
                     "put  0 1 x", " put 0 1 x", "cut 0 0 0", "cut 0 0 01", "cut 0 0 1 ", "cut 0 0 10000", "cut 0 0 1 1",
                     "cut 0 0", "change 0 0 ", "split 0", "split 0 1 ", "split 0 1 2", "split 0 9999999999", "join 1 1",
                     "join 0 0", "join 0 1 ", "join 0", "move 0 0 0 0 0", "move 0 0 1 0", "move 0 0 1 0 0 0",
                     "move 0 0 1 0 0 ", "put 0 1 a\n", "come a\nb", "come \n", "put 0 " + "1" * 5000 + " x", "x 1 2",
                     "put \u0660 0 x", "put \u00b2 0 x", "come \u00e9"):
            self.assertIsNone(read_edit(text), text)

    def test_no_strings(self):
        for thing in odd_things():
            self.assertEqual(read_edit(thing), ("go",) if thing == "go" else None)
        for thing in (("put", 0, 1, "x"), ["go"], b"go", nested(40, list)):
            self.assertIsNone(read_edit(thing))

    def test_cut_exchanged_put_in_and_left_out(self):
        chance = random.Random(111)
        for edit in (("put", 10, 1, " x 2"), ("cut", 0, 10, 21), ("change", 0, 1999, "0"), ("come", " a 0 "), ("come", ""),
                     ("go",), ("split", 10, 0), ("join", 10, 11), ("move", 0, 11, 20, 3, 100), ("put", 0, 0, "12 ")):
            text = edit_text(edit)
            for place in range(len(text) + 1):
                others = [text[:place], text[:place] + text[place + 1:]]
                for sign in " 0a1\n" + chance.choice("cgmpsj"):
                    others += [text[:place] + sign + text[place:], text[:place] + sign + text[place + 1:]]
                for other in others:
                    self.assertEqual(read_edit(other), plain_read(other), other)
                    if read_edit(other) is not None:
                        self.assertEqual(edit_text(read_edit(other)), other)


if __name__ == "__main__":
    unittest.main()
