"""6.3: which classes stay behind an edit."""

import random
import unittest

from everypiece.classes import class_stays, classes, turned_classes
from everypiece.edits import edited
from everypiece.errors import NoClass, NoEdit
from everypiece.libraries import Library, size
from helper import (WORDS, edits_of, error_of, libraries, odd_things, places_of, plain_classes, plain_taken,
                    random_edit, random_library, some_edits_of, tiny_libraries)


def sign_at(library, text, at):
    """The sign at a place, None if there is none."""
    return library.texts[text][at] if 0 <= at < len(library.texts[text]) else None


def touches(library, later, taken, place, many):
    """Whether an edit touches a place of a piece of so many signs, as the document says."""
    text, at = place
    thens = [taken.get((text, at + number)) for number in range(many)]
    if None in thens or any(other != (one[0], one[1] + 1) for one, other in zip(thens, thens[1:])):
        return True
    ahead, behind = thens[0], thens[-1]
    return (sign_at(library, text, at - 1) != sign_at(later, ahead[0], ahead[1] - 1)
            or sign_at(library, text, at + many) != sign_at(later, behind[0], behind[1] + 1))


def pairs():
    """Small libraries, each with an edit."""
    chance = random.Random(91)
    found = []
    for library in tiny_libraries()[::3]:
        found += [(library, edit) for edit in some_edits_of(library, 12)]
    for library in tiny_libraries():
        found += [(library, random_edit(chance, library)) for _ in range(3)]
    return [(library, edit) for library, edit in found if size(edited(library, edit)) <= 25]


class StayingTest(unittest.TestCase):

    def test_by_hand(self):
        library = Library(("abab",))
        for edit, right in ((("put", 0, 4, "c"), [1]), (("put", 0, 0, "c"), [1]), (("put", 0, 2, "c"), [1]),
                            (("put", 0, 2, "ab"), [0, 1]), (("cut", 0, 0, 2), [0, 1]), (("come", "ab"), [0]),
                            (("come", "c"), []), (("come", ""), []), (("split", 0, 2), [1]), (("split", 0, 0), []),
                            (("split", 0, 4), []), (("change", 0, 0, "a"), [0, 1]), (("change", 0, 1, "b"), []), (("change", 0, 1, "ba"), [0]),
                            (("move", 0, 0, 2, 0, 2), [1]), (("move", 0, 0, 1, 0, 0), []), (("come", "b"), [])):
            self.assertEqual(turned_classes(library, edit), right, edit)
            self.assertEqual([class_stays(library, edit, number) for number in range(2)],
                             [number not in right for number in range(2)])
        library = Library(("ab", "", "ab", ""))
        self.assertEqual(turned_classes(library, ("go",)), [])
        self.assertEqual(turned_classes(library, ("join", 1, 0)), [])
        self.assertEqual(turned_classes(library, ("join", 0, 2)), [])
        self.assertEqual(turned_classes(Library(()), ("come", "a")), [])

    def test_a_place_whose_first_sign_is_gone(self):
        """One place less: the class is not just where its first signs are taken, for one is taken nowhere."""
        library = Library(("abxabyab",))
        self.assertEqual(classes(library), [("ab", 3), ("abxabyab", 1)])
        for edit in (("cut", 0, 6, 2), ("cut", 0, 6, 1), ("cut", 0, 7, 1)):
            self.assertEqual(turned_classes(library, edit), [0, 1])

    def test_against_what_the_edit_does_to_each_place(self):
        words = set()
        turned, stayed = 0, 0
        for library, edit in pairs():
            later, taken = plain_taken(library, edit)
            longests = plain_classes(later)
            right = []
            for number, longest in enumerate(plain_classes(library)):
                thens = [taken.get(place) for place in places_of(library, longest)]
                stays = longest in longests and None not in thens and sorted(thens) == places_of(later, longest)
                self.assertIs(class_stays(library, edit, number), stays, (library.texts, edit, longest))
                if not stays:
                    right.append(number)
                turned, stayed = turned + (not stays), stayed + stays
            self.assertEqual(turned_classes(library, edit), right)
            self.assertIs(type(turned_classes(library, edit)), list)
            words.add(edit[0])
        self.assertEqual(sorted(words), sorted(WORDS))
        self.assertGreater(min(turned, stayed), 1000)

    def test_fact_of_staying(self):
        untouched = 0
        for library, edit in pairs():
            later, taken = plain_taken(library, edit)
            for number, (longest, _) in enumerate(classes(library)):
                places = places_of(library, longest)
                if any(touches(library, later, taken, place, len(longest)) for place in places):
                    continue
                if set(places_of(later, longest)) <= {taken[place] for place in places}:
                    self.assertIs(class_stays(library, edit, number), True)
                    untouched += 1
        self.assertGreater(untouched, 500)

    def test_what_changes_nothing(self):
        for library in tiny_libraries()[::4]:
            for edit in [("come", "")] + [("split", text, 0) for text in range(len(library.texts))]:
                if len(library.texts) < 8:
                    self.assertEqual(turned_classes(library, edit), [])

    def test_full_libraries(self):
        library = Library(("a" * 2000,))
        self.assertEqual(turned_classes(library, ("cut", 0, 0, 1)), list(range(2000)))
        self.assertEqual(turned_classes(library, ("split", 0, 1000)), list(range(1, 2000)))
        library = Library(("a" * 1000, "b" * 999))
        self.assertEqual(turned_classes(library, ("put", 1, 0, "c")), [1997])
        chance = random.Random(92)
        for library in [other for other in libraries() if size(other) > 1000]:
            for _ in range(3):
                edit = random_edit(chance, library)
                later, taken = plain_taken(library, edit)
                found = classes(library)
                longests = {longest for longest, _ in classes(later)}
                turned = turned_classes(library, edit)
                for number in range(0, len(found), max(1, len(found) // 20)):
                    longest = found[number][0]
                    thens = [taken.get(place) for place in places_of(library, longest)]
                    stays = longest in longests and None not in thens and sorted(thens) == places_of(later, longest)
                    self.assertIs(number not in turned, stays)

    def test_no_edit_and_no_class(self):
        for library in (Library(()), Library(("",)), Library(("abab", "b"))):
            many = len(classes(library))
            for thing in odd_things() + [("cut", 0, 0, 9), ("put", 0, 0, ""), ["come", "a"], ("go", 0)]:
                self.assertIs(type(error_of(self, turned_classes, library, thing)), NoEdit)
                for number in (0, many, None, -1, True):
                    self.assertIs(type(error_of(self, class_stays, library, thing, number)), NoEdit)
            for thing in odd_things() + [many, many + 1, -1, True, False, "0", None, 10 ** 19, [0], (0,)]:
                if type(thing) is not int or not 0 <= thing < many:
                    self.assertIs(type(error_of(self, class_stays, library, ("come", "a"), thing)), NoClass)

    def test_nothing_is_changed(self):
        library = Library(("abab", ""))
        for edit in edits_of(library):
            self.assertEqual(turned_classes(library, edit), turned_classes(library, edit))
            self.assertEqual(library.texts, ("abab", ""))


if __name__ == "__main__":
    unittest.main()
