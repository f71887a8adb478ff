"""1.3: where edits take signs, and where signs came from."""

import unittest

from everypiece.edits import edited, is_edit, place_ahead, place_behind
from everypiece.errors import NoEdit, NoPlace
from everypiece.libraries import Library
from helper import (WORDS, edits_of, error_of, labelled, libraries, odd_things, plain_edit, small_libraries,
                    some_edits_of, well_formed)


def all_places(library):
    return [(text, at) for text, signs in enumerate(library.texts) for at in range(len(signs))]


def edge_places(library):
    """Places at the bounds of each text, some beside its middle, and some more."""
    found = []
    for text, signs in enumerate(library.texts):
        long = len(signs)
        near = {0, 1, 2, long // 2 - 1, long // 2, long // 2 + 1, long - 3, long - 2, long - 1}
        found += [(text, at) for at in sorted(near.union(range(0, long, 97))) if 0 <= at < long]
    return found


class PlacesTest(unittest.TestCase):

    def check(self, library, edit, choose):
        behind = edited(library, edit)
        rows = plain_edit(library, edit)
        ahead = {(text, at): label[1] for text, row in enumerate(rows) for at, label in enumerate(row)}
        taken = {place: then for then, place in ahead.items() if place is not None}
        for place in choose(library):
            then = place_behind(library, edit, place)
            self.assertEqual(then, taken.get(place), (library.texts, edit, place))
            if then is not None:
                self.assertIs(type(then), tuple)
                self.assertEqual(place_ahead(library, edit, then), place)
                self.assertEqual(behind.texts[then[0]][then[1]], library.texts[place[0]][place[1]])
        for then in choose(behind):
            place = place_ahead(library, edit, then)
            self.assertEqual(place, ahead[then], (library.texts, edit, then))
            if place is not None:
                self.assertIs(type(place), tuple)
                self.assertEqual(place_behind(library, edit, place), then)

    def test_all_places_of_all_edits_of_small_libraries(self):
        for library in small_libraries():
            for edit in well_formed(range(5), ("x", "ab")):
                if is_edit(library, edit):
                    self.check(library, edit, all_places)

    def test_places_of_edits_of_all_libraries(self):
        kinds = []
        for library in libraries():
            for edit in some_edits_of(library):
                self.check(library, edit, edge_places)
                kinds.append(edit[0])
        self.assertEqual(sorted(set(kinds)), sorted(WORDS))

    def test_all_places_of_some_edits_of_full_libraries(self):
        full = Library(("ab" * 700, "", "ba" * 300))
        for edit in (("cut", 0, 700, 700), ("change", 0, 3, "ab" * 50), ("split", 0, 699), ("join", 2, 0),
                     ("move", 0, 10, 800, 0, 333), ("move", 0, 0, 1400, 2, 5), ("come", "")):
            self.check(full, edit, all_places)

    def test_signs_that_are_gone_exchanged_or_new(self):
        library = Library(("abab", "cd"))
        self.assertIsNone(place_behind(library, ("cut", 0, 1, 2), (0, 1)))
        self.assertIsNone(place_behind(library, ("cut", 0, 1, 2), (0, 2)))
        self.assertEqual(place_behind(library, ("cut", 0, 1, 2), (0, 3)), (0, 1))
        self.assertIsNone(place_behind(library, ("change", 0, 1, "bx"), (0, 1)))
        self.assertIsNone(place_ahead(library, ("change", 0, 1, "bx"), (0, 1)))
        self.assertEqual(place_behind(library, ("change", 0, 1, "bx"), (0, 3)), (0, 3))
        self.assertIsNone(place_ahead(library, ("put", 1, 1, "xy"), (1, 2)))
        self.assertEqual(place_ahead(library, ("put", 1, 1, "xy"), (1, 3)), (1, 1))
        self.assertIsNone(place_ahead(library, ("come", "ab"), (2, 0)))
        self.assertEqual(place_ahead(library, ("come", "ab"), (0, 3)), (0, 3))
        self.assertEqual(place_behind(Library(("ab", "")), ("go",), (0, 1)), (0, 1))

    def test_moved_split_and_joined_signs_are_the_same_signs(self):
        library = Library(("abab", "cd"))
        self.assertEqual(place_behind(library, ("move", 0, 1, 2, 1, 1), (0, 2)), (1, 2))
        self.assertEqual(place_behind(library, ("move", 0, 1, 2, 1, 1), (1, 1)), (1, 3))
        self.assertEqual(place_ahead(library, ("move", 0, 1, 2, 1, 1), (1, 2)), (0, 2))
        self.assertEqual(place_behind(library, ("move", 0, 0, 1, 0, 3), (0, 0)), (0, 3))
        self.assertEqual(place_behind(library, ("move", 0, 1, 1, 0, 1), (0, 1)), (0, 1))
        self.assertEqual(place_behind(library, ("split", 0, 1), (0, 3)), (2, 2))
        self.assertEqual(place_behind(library, ("join", 1, 0), (0, 1)), (1, 3))
        self.assertEqual(place_ahead(library, ("join", 1, 0), (1, 3)), (0, 1))


class WrongTest(unittest.TestCase):

    def test_no_edit_comes_first(self):
        for library in (Library(()), Library(("abab",))):
            for thing in odd_things() + [("put", 0, 5, "x"), ["come", ""], ("go", 0)]:
                for place in ((0, 0), (0, 9), None, [0, 0]):
                    for function in (place_behind, place_ahead):
                        self.assertIs(type(error_of(self, function, library, thing, place)), NoEdit)

    def test_no_place(self):
        library = Library(("ab", ""))
        edits = (("put", 0, 1, "x"), ("cut", 0, 0, 1), ("change", 0, 0, "x"), ("come", "x"), ("go",), ("split", 0, 1),
                 ("join", 1, 0), ("move", 0, 0, 1, 1, 0))
        for edit in edits:
            for thing in odd_things() + [(0, True), (False, 0), [0, 0], (0, 0, 0), (-1, 0), (0, -1), (8, 0), (0, 2001)]:
                for function in (place_behind, place_ahead):
                    self.assertIs(type(error_of(self, function, library, edit, thing)), NoPlace)

    def test_the_places_are_those_ahead_and_those_behind(self):
        for library in small_libraries():
            for edit in edits_of(library):
                behind = edited(library, edit)
                for place in [(text, at) for text in range(5) for at in range(8)]:
                    for function, owner in ((place_behind, library), (place_ahead, behind)):
                        if place not in all_places(owner):
                            self.assertIs(type(error_of(self, function, library, edit, place)), NoPlace)

    def test_the_model_tells_signs_apart(self):
        self.assertEqual(labelled(Library(("aa", "", "b"))), [[("a", (0, 0)), ("a", (0, 1))], [], [("b", (2, 0))]])


if __name__ == "__main__":
    unittest.main()
