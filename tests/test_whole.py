"""0.1: the whole program: a library that is led by the same edits in each way is the same one, and all of it agrees."""

import random
import unittest

from everypiece.asks import all_pieces, places
from everypiece.blocks import blocks, levels
from everypiece.classes import class_of, classes, down_tree, many_pieces, up_tree
from everypiece.desks import Desk
from everypiece.disks import Disk
from everypiece.edits import edited, leading, leading_back, led
from everypiece.endings import endings, lengths
from everypiece.libraries import Library, turned_about
from everypiece.machines import machine_fault, machine_of
from everypiece.patterns import fits
from everypiece.rows import row_ahead, told_back
from everypiece.saves import Vault, edit_text, read_edit, told_library
from everypiece.searches import searched
from everypiece.shelves import Shelf
from everypiece.tongues import asked
from everypiece.webs import Web, count_by, read_by, texts_by, web_of
from helper import pieces_of, places_of, plain_edit, random_edit, random_library, texts_of, tiny_libraries


def drawn_edits(chance, library, many, most):
    """Edits one behind the other, and the libraries behind them, that stay below so many signs."""
    found, states = [], [library]
    while len(found) < many:
        edit = random_edit(chance, states[-1])
        then = Library(texts_of(plain_edit(states[-1], edit)))
        if sum(map(len, then.texts)) <= most:
            found.append(edit)
            states.append(then)
    return found, states


class WaysTest(unittest.TestCase):

    def by_vault(self, chance, edits, states):
        """The Vault behind edits, the disk of which is cut again and again: what is lost is done again."""
        disk = Disk()
        vault = Vault(disk)
        done = 0
        while done < len(edits):
            vault.edit(edits[done])
            done += 1
            way = chance.choice(["go on", "go on", "go on", "sync", "save", "cut"])
            if way == "sync":
                vault.sync()
            elif way == "save":
                vault.save()
            elif way == "cut":
                waiting = disk.lines()[disk.synced():]
                disk.cut(tuple(chance.choice([len(line), chance.randint(0, len(line))]) for line in waiting))
                vault = Vault(disk)
                lost = [number for number in range(len(waiting) + 1) if vault.library() == states[done - number]]
                self.assertTrue(lost)
                done -= lost[0]
        return vault, disk

    def by_desk(self, chance, edits):
        """The same by lines of a desk, some edits being taken back and done again, and the Vault moved."""
        desk = Desk()
        desk.tell("new a")
        for edit in edits:
            desk.tell("edit a " + edit_text(edit))
            if chance.random() < 0.3:
                desk.tell("back a")
                desk.tell("edit a " + edit_text(edit))
            if chance.random() < 0.2:
                desk.tell("move a b")
                desk.tell("move b a")
            if chance.random() < 0.2:
                desk.tell(chance.choice(["sync a", "save a", "cut a 999999999"]))
        return desk

    def test_each_way_leads_to_the_same_library(self):
        chance = random.Random(127)
        for turn in range(70):
            edits, states = drawn_edits(chance, Library(()), chance.randint(0, 12), 2000 if turn < 3 else 30)
            library = states[-1]
            stepped = Library(())
            shelf = Shelf(stepped)
            for edit, then in zip(edits, states[1:]):
                stepped = edited(stepped, read_edit(edit_text(edit)))
                shelf.do(edit)
                self.assertEqual(stepped, then)
                self.assertEqual(shelf.library(), then)
            vault, disk = self.by_vault(chance, edits, states)
            desk = self.by_desk(chance, edits)
            many = len(disk.lines())
            self.assertEqual(led(Library(()), edits), library)
            self.assertEqual(led(Library(()), tuple(edits)), library)
            self.assertEqual(vault.library(), library)
            self.assertEqual(told_library(disk.lines()), (library, many))
            self.assertEqual(Vault(disk.copy()).library(), library)
            self.assertEqual(vault.moved(Disk()).library(), library)
            for number, text in enumerate(library.texts):
                self.assertEqual(desk.tell(f"text a {number}"), text)
            self.check_kept(library, shelf)
            self.check_told(library, vault.library())

    def check_kept(self, library, shelf):
        """What a Shelf keeps is what is made anew."""
        self.assertEqual(shelf.order(), endings(library))
        self.assertEqual(shelf.common_lengths(), lengths(library))
        while shelf.depth():
            shelf.back()
        self.assertEqual(shelf.library(), Library(()))

    def check_told(self, library, other):
        """The row and the web of one tell the other."""
        self.assertEqual(told_back(row_ahead(library)), other)
        self.assertEqual(texts_by(web_of(library)), sorted(text for text in other.texts if text))
        self.assertEqual(web_of(library), web_of(other))
        self.assertEqual(row_ahead(library), row_ahead(other))
        self.assertEqual(machine_of(library), machine_of(other))
        self.assertIsNone(machine_fault(library, machine_of(other)))
        for text, like in zip(library.texts, other.texts):
            self.assertEqual(levels(text), levels(like))

    def test_there_and_back(self):
        chance = random.Random(128)
        for _ in range(60):
            start = random_library(chance, 30)
            edits, states = drawn_edits(chance, start, 6, 60)
            there = led(start, edits)
            back = []
            for edit, ahead in zip(edits[::-1], states[-2::-1]):
                back += leading_back(ahead, edit)
            self.assertEqual(led(there, back), start)
            self.assertEqual(led(start, leading(start, there)), there)
            self.assertEqual(led(there, leading(there, start)), start)
            shelf = Shelf(start)
            for edit in edits + back:
                shelf.do(edit)
            self.assertEqual((shelf.library(), shelf.order(), shelf.common_lengths()),
                             (start, endings(start), lengths(start)))


class MainFactTest(unittest.TestCase):

    def test_the_web_is_that_of_the_turned_library_turned_about(self):
        for library in tiny_libraries():
            web, turned = web_of(library), web_of(turned_about(library))
            self.assertEqual(sorted((row[0][::-1], row[1]) for row in web.rows), sorted(row[:2] for row in turned.rows))
            names = [row[0] for row in web.rows]
            turned_names = [row[0][::-1] for row in turned.rows]
            for row in web.rows:
                other = turned.rows[turned_names.index(row[0])]
                for ties, like in ((row[3], other[4]), (row[4], other[3])):
                    self.assertEqual([(sign, names[home]) for sign, home, _ in ties],
                                     [(sign, turned_names[home]) for sign, home, _ in like])
            downs = {names[number]: names[pair[0]] for number, pair in enumerate(down_tree(library)) if pair}
            ups = {turned_names[number]: turned_names[pair[0]]
                   for number, pair in enumerate(up_tree(turned_about(library))) if pair}
            self.assertEqual(downs, ups)

    def test_all_questions_agree(self):
        chance = random.Random(129)
        for library in tiny_libraries()[::3] + [random_library(chance, 40) for _ in range(20)]:
            web = web_of(library)
            self.assertEqual(Web(web.rows), web)
            pieces = pieces_of(library)
            self.assertEqual(all_pieces(library), len(pieces))
            self.assertEqual(sum(many_pieces(library, number) for number in range(len(classes(library)))), len(pieces))
            for piece in chance.sample(pieces, min(len(pieces), 12)):
                found = places_of(library, piece)
                self.assertEqual(places(library, piece), found)
                self.assertEqual(asked(library, "count " + piece), str(len(found)))
                self.assertEqual(count_by(web, piece), len(found))
                self.assertEqual(read_by(web, piece), class_of(library, piece))
                if len(piece) <= 30:
                    pattern = tuple(("sign", sign) for sign in piece)
                    self.assertEqual([fit[:2] for fit in fits(library, pattern)], found)
                    low, high = searched(library, pattern)[0][0]
                    self.assertEqual(sorted(endings(library)[low:high]), found)

    def test_like_texts_have_like_blocks_whatever_edits_made_them(self):
        chance = random.Random(130)
        for _ in range(60):
            edits, states = drawn_edits(chance, random_library(chance, 30), 5, 60)
            for text in states[-1].texts:
                disk = Disk()
                vault = Vault(disk)
                vault.edit(("come", text))
                vault.save()
                names = sorted({name for level in range(len(levels(text))) for name in blocks(text, level)
                                if len(name) > 1})
                self.assertEqual(vault.told_names(), names)
            self.assertEqual(led(states[0], edits), states[-1])


if __name__ == "__main__":
    unittest.main()
