"""3.3: shelves keep the order of endings, and its lengths, under edits."""

import random
import unittest

from everypiece.edits import edited, led
from everypiece.endings import endings, fewest_moves, lengths
from everypiece.errors import NoEdit, NoPlace, NothingDone, NoWord
from everypiece.libraries import Library
from everypiece.shelves import Shelf
from helper import (WORDS, edits_of, error_of, libraries, nested, odd_things, place_list, plain_lengths, plain_order,
                    plain_span, plain_taken, random_edit, random_library, signs_from, some_edits_of)


class ShelfTest(unittest.TestCase):

    def check(self, shelf, library):
        """A shelf is as if made anew of a library."""
        self.assertEqual(shelf.library(), library)
        self.assertEqual(shelf.order(), plain_order(library))
        self.assertEqual(shelf.common_lengths(), plain_lengths(library))

    def check_told(self, library, edit, told):
        later, taken = plain_taken(library, edit)
        gone, new, moved = told
        self.assertIs(type(told), tuple)
        self.assertEqual(gone, len(place_list(library)) - len(taken))
        self.assertEqual(new, len(place_list(later)) - len(taken))
        most = [place for place, then in taken.items()
                if place[0] != then[0] or signs_from(library, place) != signs_from(later, then)]
        self.assertTrue(fewest_moves(library, edit) <= moved <= len(most), (library.texts, edit, told))


class NewTest(ShelfTest):

    def test_made_anew(self):
        for library in libraries():
            shelf = Shelf(library)
            self.check(shelf, library)
            self.assertEqual(shelf.order(), endings(library))
            self.assertEqual(shelf.common_lengths(), lengths(library))
            self.assertEqual(shelf.depth(), 0)

    def test_kinds_and_new_lists(self):
        library = Library(("abab", "b"))
        shelf = Shelf(library)
        for call, kind in ((shelf.library, Library), (shelf.order, list), (shelf.common_lengths, list),
                           (shelf.depth, int), (shelf.copy, Shelf)):
            self.assertIs(type(call()), kind)
        shelf.order().clear()
        shelf.common_lengths()[:] = [9]
        shelf.order()[0] = None
        self.check(shelf, library)

    def test_rank_of(self):
        for library in libraries():
            shelf = Shelf(library)
            order = plain_order(library)
            for number in range(0, len(order), max(1, len(order) // 40)):
                self.assertEqual(shelf.rank_of(order[number]), number)

    def test_span_of(self):
        chance = random.Random(41)
        for library in libraries() + [random_library(chance, 40) for _ in range(30)]:
            shelf = Shelf(library)
            words = ["a", "b", "ab", "ba", "aab", "abab", " ", "~", "~~", "zz", "a" * 2000, "a" * 2001, "ab" * 9, "A"]
            words += [text[at:at + many] for text in library.texts for at in (0, len(text) // 2) for many in (1, 2, 7)]
            words += [word + sign for word in words[-6:] for sign in " b~"]
            for word in filter(None, words):
                self.assertEqual(shelf.span_of(word), plain_span(library, word), (library.texts, word))
                self.assertIs(type(shelf.span_of(word)), tuple)

    def test_equal_to_nothing_of_another_kind(self):
        library = Library(("ab",))
        shelf = Shelf(library)
        for thing in odd_things() + [library, library.texts]:
            self.assertIs(shelf == thing, False)
            self.assertIs(thing == shelf, False)


class DoTest(ShelfTest):

    def test_by_hand(self):
        shelf = Shelf(Library(("abab",)))
        self.assertEqual(shelf.do(("put", 0, 0, "xy"))[:2], (0, 2))
        self.assertEqual(shelf.do(("cut", 0, 1, 3))[:2], (3, 0))
        self.assertEqual(shelf.do(("change", 0, 0, "x"))[:2], (1, 1))
        self.assertEqual(shelf.do(("come", "aab")), (0, 3, 0))
        self.assertEqual(shelf.do(("come", "")), (0, 0, 0))
        self.assertEqual(shelf.do(("go",)), (0, 0, 0))
        self.assertEqual(shelf.do(("split", 1, 1))[:2], (0, 0))
        self.assertEqual(shelf.library(), Library(("xab", "a", "ab")))
        self.assertEqual(shelf.depth(), 7)
        self.check(shelf, Library(("xab", "a", "ab")))

    def test_each_edit_of_small_libraries(self):
        words = []
        for library in libraries():
            if len(place_list(library)) > 12:
                continue
            for edit in edits_of(library):
                shelf = Shelf(library)
                self.check_told(library, edit, shelf.do(edit))
                self.check(shelf, edited(library, edit))
                self.assertEqual(shelf.depth(), 1)
                words.append(edit[0])
                self.assertIsNone(shelf.back())
                self.check(shelf, library)
                self.assertIsNone(shelf.again())
                self.check(shelf, edited(library, edit))
        self.assertEqual(sorted(set(words)), sorted(WORDS))

    def test_full_libraries(self):
        chance = random.Random(42)
        for library in libraries():
            if len(place_list(library)) < 1000:
                continue
            shelf = Shelf(library)
            for edit in chance.sample(some_edits_of(library, 30), 3):
                self.check_told(library, edit, shelf.do(edit))
                self.check(shelf, edited(library, edit))
                shelf.back()
                self.check(shelf, library)
        for edit in (("put", 0, 1999, "z"), ("put", 0, 1000, "b"), ("cut", 0, 500, 1000), ("split", 0, 1000)):
            library = Library(("a" * 1999,))
            shelf = Shelf(library)
            self.check_told(library, edit, shelf.do(edit))
            self.check(shelf, edited(library, edit))

    def test_rows_of_edits(self):
        chance = random.Random(43)
        for _ in range(60):
            library = random_library(chance, chance.choice([6, 20, 60]))
            shelf = Shelf(library)
            for depth in range(1, 26):
                edit = random_edit(chance, library)
                self.check_told(library, edit, shelf.do(edit))
                library = edited(library, edit)
                self.check(shelf, library)
                self.assertEqual(shelf.depth(), depth)
                for place in place_list(library)[:3]:
                    self.assertEqual(shelf.rank_of(place), plain_order(library).index(place))
                for word in ("a", "ab", "b", (library.texts or ("",))[0][:2] or "x"):
                    self.assertEqual(shelf.span_of(word), plain_span(library, word))

    def test_a_library_is_not_changed(self):
        library = Library(("abab", ""))
        shelf = Shelf(library)
        shelf.do(("join", 1, 0))
        self.assertEqual(library.texts, ("abab", ""))
        self.check(shelf, Library(("", "abab")))


class BackTest(ShelfTest):

    def test_nothing_done(self):
        shelf = Shelf(Library(("ab",)))
        for _ in range(2):
            for call in (shelf.back, shelf.again):
                self.assertIs(type(error_of(self, call)), NothingDone)
        shelf.do(("cut", 0, 0, 1))
        self.assertIs(type(error_of(self, shelf.again)), NothingDone)
        shelf.back()
        self.assertIs(type(error_of(self, shelf.back)), NothingDone)
        self.check(shelf, Library(("ab",)))
        shelf.again()
        self.assertIs(type(error_of(self, shelf.again)), NothingDone)
        self.check(shelf, Library(("b",)))
        self.assertEqual(shelf.depth(), 1)

    def test_an_edit_done_ends_what_was_taken_back(self):
        shelf = Shelf(Library(("ab",)))
        shelf.do(("put", 0, 2, "c"))
        shelf.do(("put", 0, 3, "d"))
        shelf.back()
        shelf.do(("put", 0, 0, "x"))
        self.assertIs(type(error_of(self, shelf.again)), NothingDone)
        self.check(shelf, Library(("xabc",)))
        self.assertEqual(shelf.depth(), 2)

    def test_an_edit_that_changes_nothing_can_be_taken_back(self):
        library = Library(("ab", "ab"))
        shelf = Shelf(library)
        for depth, edit in enumerate((("change", 0, 0, "ab"), ("move", 0, 0, 1, 0, 0), ("come", ""), ("go",))):
            shelf.do(edit)
            self.assertEqual(shelf.depth(), depth + 1)
        for depth in (3, 2, 1, 0):
            shelf.back()
            self.assertEqual(shelf.depth(), depth)
        self.check(shelf, library)

    def test_back_and_again_at_random(self):
        chance = random.Random(44)
        for _ in range(60):
            shelf = Shelf(random_library(chance, chance.choice([6, 20, 60])))
            states, now = [shelf.library()], 0
            for _ in range(40):
                kind = chance.choice(["do", "do", "back", "back", "again"])
                if kind == "do":
                    edit = random_edit(chance, states[now])
                    shelf.do(edit)
                    states[now + 1:] = [edited(states[now], edit)]
                    now += 1
                elif kind == "back" and now > 0:
                    self.assertIsNone(shelf.back())
                    now -= 1
                elif kind == "again" and now + 1 < len(states):
                    self.assertIsNone(shelf.again())
                    now += 1
                else:
                    call = shelf.back if kind == "back" else shelf.again
                    self.assertIs(type(error_of(self, call)), NothingDone)
                self.check(shelf, states[now])
                self.assertEqual(shelf.depth(), now)

    def test_all_the_way_back_and_on(self):
        chance = random.Random(45)
        library = Library(("ab" * 40, "", "ba" * 9))
        shelf, states = Shelf(library), [library]
        for _ in range(120):
            edit = random_edit(chance, states[-1])
            shelf.do(edit)
            states.append(edited(states[-1], edit))
        for number in range(119, -1, -1):
            shelf.back()
            self.check(shelf, states[number])
        for number in range(1, 121):
            shelf.again()
            self.check(shelf, states[number])
        self.assertEqual(shelf.depth(), 120)


class CopyTest(ShelfTest):

    def test_copies_go_on_apart(self):
        shelf = Shelf(Library(("abab",)))
        shelf.do(("put", 0, 4, "c"))
        shelf.do(("put", 0, 0, "d"))
        shelf.back()
        other = shelf.copy()
        self.check(other, Library(("ababc",)))
        self.assertEqual(other.depth(), 1)
        other.again()
        self.check(other, Library(("dababc",)))
        self.check(shelf, Library(("ababc",)))
        shelf.back()
        self.check(shelf, Library(("abab",)))
        self.check(other, Library(("dababc",)))
        self.assertEqual((shelf.depth(), other.depth()), (0, 2))
        other.do(("come", "a"))
        self.assertIs(type(error_of(self, other.again)), NothingDone)
        shelf.again()
        shelf.again()
        self.check(shelf, Library(("dababc",)))
        self.assertIsNot(shelf.copy(), shelf)

    def test_copies_of_copies_at_random(self):
        chance = random.Random(46)
        for _ in range(12):
            library = random_library(chance, 30)
            kept = [(Shelf(library), [library], 0)]
            for _ in range(60):
                number = chance.randrange(len(kept))
                shelf, states, now = kept[number]
                kind = chance.choice(["do", "do", "back", "again", "copy"])
                if kind == "do":
                    edit = random_edit(chance, states[now])
                    shelf.do(edit)
                    states, now = states[:now + 1] + [edited(states[now], edit)], now + 1
                elif kind == "back" and now > 0:
                    shelf.back()
                    now -= 1
                elif kind == "again" and now + 1 < len(states):
                    shelf.again()
                    now += 1
                elif kind == "copy" and len(kept) < 6:
                    kept.append((shelf.copy(), list(states), now))
                kept[number] = (shelf, states, now)
                for one, here, at in kept:
                    self.check(one, here[at])
                    self.assertEqual(one.depth(), at)


class WrongTest(ShelfTest):

    def test_no_edit_changes_nothing(self):
        library = Library(("abab", "", "ba"))
        shelf = Shelf(library)
        shelf.do(("put", 0, 0, "x"))
        shelf.do(("come", "y"))
        shelf.back()
        now = led(library, [("put", 0, 0, "x")])
        for thing in odd_things() + [("put", 0, 9, "x"), ("cut", 1, 0, 1), ["come", ""], ("go",), ("join", 0, 0),
                                     ("put", 0, 0, "a" * 2000), ("split", True, 0), nested(40, list)]:
            self.assertIs(type(error_of(self, shelf.do, thing)), NoEdit)
            self.assertEqual(shelf.depth(), 1)
        self.check(shelf, now)
        shelf.again()
        self.check(shelf, edited(now, ("come", "y")))

    def test_no_place_no_word(self):
        for library in (Library(()), Library(("",)), Library(("abab", "", "ba"))):
            shelf = Shelf(library)
            for thing in odd_things() + [(0, 4), (1, 0), (3, 0), (True, 0), (0, False), [0, 0], (0, -1), "00"]:
                self.assertIs(type(error_of(self, shelf.rank_of, thing)), NoPlace)
                if not isinstance(thing, str) or thing in ("", "\n", "a\n"):
                    self.assertIs(type(error_of(self, shelf.span_of, thing)), NoWord)
            self.check(shelf, library)

    def test_places_are_those_of_the_library_now(self):
        shelf = Shelf(Library(("ab",)))
        shelf.do(("split", 0, 1))
        self.assertEqual(shelf.rank_of((1, 0)), 1)
        self.assertIs(type(error_of(self, shelf.rank_of, (0, 1))), NoPlace)
        shelf.back()
        self.assertEqual(shelf.rank_of((0, 1)), 1)
        self.assertIs(type(error_of(self, shelf.rank_of, (1, 0))), NoPlace)


if __name__ == "__main__":
    unittest.main()
