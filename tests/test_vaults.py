"""10.4: Vaults, led by drawn calls beside a plain account, and cut anywhere."""

import random
import unittest

from everypiece.blocks import new_blocks
from everypiece.disks import Disk, record
from everypiece.errors import NoDisk, NoEdit
from everypiece.libraries import Library
from everypiece.saves import Vault, told_library
from helper import error_of, nested, odd_things, plain_edit, random_edit, random_library, random_text, texts_of
from test_told_library import key_lines, plain_key, plain_told


def edit_line(edit):
    """The line of an edit, put together plainly."""
    contents = " ".join(map(str, ("edit",) + edit))
    return f"{len(contents)}:{contents}"


def cut_at(chance, disk):
    """Cuts the power anywhere: whole lines, none, or parts."""
    waiting = disk.lines()[disk.synced():]
    way = chance.choice(["all", "none", "any", "any", "ahead"])
    some = chance.randint(0, len(waiting))
    kept = [len(line) if way == "all" or way == "ahead" and number < some else 0 if way == "none" else
            chance.choice([len(line), len(line), chance.randint(0, len(line))]) for number, line in enumerate(waiting)]
    disk.cut(tuple(kept))
    return kept


def filled(library):
    """A Vault with a library, and its disk."""
    disk = Disk()
    vault = Vault(disk)
    for text in library.texts:
        vault.edit(("come", text))
    return vault, disk


class Account:
    """A plain account of a Vault and its disk: its texts, all lines, how many are synced, the names that are told."""

    def __init__(self, lines):
        self.texts, many, names = plain_told(lines)
        self.lines = lines[:many]
        self.synced = many
        self.names = {}
        for number, name in names.items():
            self.names.setdefault(name, int(number))

    def save(self):
        new = [record(contents) for _, contents in plain_key(Library(self.texts), self.names, len(self.lines))]
        self.lines += new
        self.synced = len(self.lines)
        return len(new) - 1


class VaultTest(unittest.TestCase):

    def agree(self, vault, disk, account):
        self.assertEqual(vault.library(), Library(account.texts))
        self.assertEqual(disk.lines(), account.lines)
        self.assertEqual(disk.synced(), account.synced)
        self.assertEqual(vault.told_names(), sorted(account.names))

    def test_by_hand(self):
        disk = Disk()
        vault = Vault(disk)
        self.assertEqual((vault.library(), disk.lines(), vault.told_names()), (Library(()), [], []))
        self.assertEqual(vault.edit(("come", "abab")), 0)
        self.assertEqual(vault.edit(("put", 0, 4, "c")), 1)
        self.assertEqual((disk.lines(), disk.synced()), (["14:edit come abab", "14:edit put 0 4 c"], 0))
        self.assertEqual((vault.sync(), vault.sync(), disk.synced()), (2, 0, 2))
        self.assertEqual(vault.edit(("cut", 0, 4, 1)), 2)
        self.assertEqual(vault.save(), 2)
        self.assertEqual(disk.lines()[3:], ["11:block 'a 'b", "9:block 3 3", "5:key 4"])
        self.assertEqual((disk.synced(), vault.told_names()), (6, ["ab", "abab"]))
        self.assertEqual((vault.save(), disk.lines()[6:]), (0, ["5:key 4"]))
        vault.edit(("split", 0, 2))
        self.assertEqual(vault.library(), Library(("ab", "ab")))
        disk.cut((len(disk.lines()[-1]) - 1,))
        again = Vault(disk)
        self.assertEqual((again.library(), len(disk.lines()), disk.synced()), (Library(("abab",)), 7, 7))

    def test_beginning(self):
        for lines, synced, texts, many in (
                ([], 0, (), 0), (["x"], 0, (), 0), (["x"], 1, (), 0), (["3:key", "x", "3:key"], 0, (), 1),
                (["11:edit come a", "x"], 1, ("a",), 1), (["11:edit come a", "3:key", "11:edit come b"], 1, ("b",), 3),
                (["11:edit come a", "7:edit go"], 2, ("a",), 1)):
            disk = Disk()
            for number, line in enumerate(lines):
                disk.write(line)
                if number + 1 == synced:
                    disk.sync()
            vault = Vault(disk)
            self.assertEqual(vault.library(), Library(texts))
            self.assertEqual((disk.lines(), disk.synced()), (lines[:many], many))

    def test_it_goes_on_with_the_disk_that_was_passed(self):
        disk = Disk()
        vault = Vault(disk)
        vault.edit(("come", "a"))
        self.assertEqual(disk.lines(), ["11:edit come a"])
        disk.sync()
        self.assertEqual(vault.sync(), 0)
        vault.edit(("come", "b"))
        disk.cut((14,))
        self.assertEqual(vault.sync(), 0)
        self.assertEqual(vault.edit(("put", 1, 1, "c")), 2)
        self.assertEqual(Vault(disk).library(), Library(("a", "bc")))

    def test_no_disk(self):
        for thing in odd_things() + [nested(40, tuple), Vault(Disk()), Library(())]:
            if not isinstance(thing, Disk):
                self.assertIs(type(error_of(self, Vault, thing)), NoDisk)
                self.assertIs(type(error_of(self, Vault(Disk()).moved, thing)), NoDisk)

    def test_no_edit(self):
        vault, disk = filled(Library(("ab",)))
        vault.sync()
        before = disk.lines()
        for thing in odd_things() + [("go",), ("put", 0, 3, "x"), ("put", 0, 0, ""), ["come", "a"], ("come", "a" * 1999),
                                     ("cut", 0, 0, 3), ("join", 0, 0), "come a", "3:key", ("split", 1, 0)]:
            self.assertIs(type(error_of(self, vault.edit, thing)), NoEdit)
            self.assertEqual((vault.library(), disk.lines(), disk.synced()), (Library(("ab",)), before, 1))

    def test_what_was_told_can_be_changed(self):
        vault, _ = filled(Library(("abab",)))
        vault.save()
        vault.told_names().append("x")
        self.assertEqual(vault.told_names(), ["ab", "abab"])

    def test_drawn_calls_beside_a_plain_account(self):
        chance = random.Random(115)
        for _ in range(90):
            disk = Disk()
            vault, account = Vault(disk), Account([])
            # The texts behind all edits done, and how many of these are surely kept.
            history, sure = [()], 0
            for _ in range(25):
                call = chance.choice(["edit"] * 6 + ["sync", "save", "cut", "anew", "wrong"])
                if call == "edit":
                    edit = random_edit(chance, vault.library())
                    self.assertEqual(vault.edit(edit), len(account.lines))
                    account.texts = texts_of(plain_edit(Library(account.texts), edit))
                    account.lines.append(edit_line(edit))
                    history.append(account.texts)
                elif call == "sync":
                    self.assertEqual(vault.sync(), len(account.lines) - account.synced)
                    account.synced = len(account.lines)
                elif call == "save":
                    self.assertEqual(vault.save(), account.save())
                elif call in ("cut", "anew"):
                    if call == "cut":
                        for number, many in enumerate(cut_at(chance, disk)):
                            account.lines[account.synced + number] = account.lines[account.synced + number][:many]
                    vault, account = Vault(disk), Account(account.lines)
                    # The fact of saves.
                    self.assertIn(vault.library().texts, history[sure:])
                    history = history[:sure + history[sure:].index(vault.library().texts) + 1]
                else:
                    self.assertIs(type(error_of(self, vault.edit, ("cut", 0, 0, 2001))), NoEdit)
                self.agree(vault, disk, account)
                sure = len(history) - 1 if account.synced == len(account.lines) else sure
            self.check_lines(vault, disk)

    def check_lines(self, vault, disk):
        """All that is kept is what is made anew from the lines, and no name is written twice."""
        self.assertEqual(told_library(disk.lines()), (vault.library(), len(disk.lines())))
        names = list(plain_told(disk.lines())[2].values())
        self.assertEqual(sorted(names), vault.told_names())
        self.assertEqual(len(set(names)), len(names))

    def test_each_cut_of_some_lines(self):
        edits = [("come", "ab"), ("put", 0, 1, "cc"), ("split", 0, 2), ("move", 1, 0, 1, 0, 0), ("join", 0, 1), ("go",)]
        states = [Library(())]
        for edit in edits:
            states.append(Library(texts_of(plain_edit(states[-1], edit))))
        lines = list(map(edit_line, edits))
        for synced in range(len(edits) + 1):
            for many in range(sum(map(len, lines[synced:])) + 1):
                disk, kept, left = Disk(), [], many
                vault = Vault(disk)
                for number, edit in enumerate(edits):
                    if number == synced:
                        vault.sync()
                    vault.edit(edit)
                if synced == len(edits):
                    vault.sync()
                for line in lines[synced:]:
                    kept.append(min(left, len(line)))
                    left -= kept[-1]
                disk.cut(tuple(kept))
                there = [line for line, have in zip(lines[synced:], kept) if have == len(line)]
                self.assertEqual(Vault(disk).library(), states[synced + len(there)])
                self.assertEqual(disk.lines(), lines[:synced + len(there)])


class KeysTest(unittest.TestCase):

    def test_a_library_that_was_key_saved_ahead(self):
        chance = random.Random(116)
        for _ in range(60):
            vault, disk = filled(random_library(chance, 60))
            vault.save()
            saved = [vault.library()]
            for _ in range(6):
                edit = random_edit(chance, vault.library())
                vault.edit(edit)
                if vault.library() in saved:
                    self.assertEqual(vault.save(), 0)
                else:
                    vault.save()
                    saved.append(vault.library())
                vault = Vault(disk) if chance.random() < 0.3 else vault
                self.assertEqual(vault.save(), 0)
            names = list(plain_told(disk.lines())[2].values())
            self.assertEqual(len(set(names)), len(names))

    def test_behind_one_edit_no_more_than_new_blocks(self):
        chance = random.Random(117)
        for turn in range(150):
            library = random_library(chance, 2000 if turn < 30 else 60)
            library = Library(library.texts[:7] + (random_text(chance, 40) + "ab",)) if sum(map(len, library.texts)) < 1900 \
                else library
            vault, disk = filled(library)
            vault.save()
            names = {name: int(number) for number, name in reversed(plain_told(disk.lines())[2].items())}
            while True:
                edit = random_edit(chance, library)
                if edit[0] in ("put", "cut", "change"):
                    break
            _, text, at, what = edit
            many = {"put": 0, "cut": what, "change": len(what) if edit[0] == "change" else 0}[edit[0]]
            most = new_blocks(library.texts[text], at, many, "" if edit[0] == "cut" else what)
            vault.edit(edit)
            rows = plain_key(vault.library(), names, len(disk.lines()))
            self.assertEqual(vault.save(), len(rows) - 1)
            self.assertEqual(disk.lines()[-len(rows):], [record(contents) for _, contents in rows])
            for level in range(1, 40):
                written = len([row for row in rows if row[0] == level])
                self.assertLessEqual(written, most[level] if level < len(most) else 0)


class MovedTest(unittest.TestCase):

    def test_moved(self):
        chance = random.Random(118)
        for _ in range(60):
            vault, disk = filled(random_library(chance, 60))
            for _ in range(chance.randint(0, 3)):
                vault.edit(random_edit(chance, vault.library()))
                vault.save()
            before = (disk.lines(), disk.synced(), vault.library(), vault.told_names())
            other_disk = Disk()
            other = vault.moved(other_disk)
            self.assertIs(type(other), Vault)
            self.assertEqual(other.library(), vault.library())
            self.assertEqual(other_disk.lines(), key_lines(vault.library()))
            self.assertEqual(other_disk.synced(), len(other_disk.lines()))
            self.assertEqual(other.told_names(), sorted(set(plain_told(other_disk.lines())[2].values())))
            self.assertEqual((disk.lines(), disk.synced(), vault.library(), vault.told_names()), before)
            # Both go on apart.
            edit = random_edit(chance, other.library())
            self.assertEqual(other.edit(edit), len(key_lines(vault.library())))
            self.assertEqual(other.library().texts, texts_of(plain_edit(vault.library(), edit)))
            self.assertEqual((disk.lines(), disk.synced(), vault.library(), vault.told_names()), before)

    def test_no_disk(self):
        vault, disk = filled(Library(("ab",)))
        full = Disk()
        full.write("")
        for thing in odd_things() + [full, disk, [Disk()], (Disk(),), Vault(Disk())]:
            if not isinstance(thing, Disk) or thing.lines():
                self.assertIs(type(error_of(self, vault.moved, thing)), NoDisk)
        self.assertEqual((full.lines(), full.synced(), len(disk.lines())), ([""], 0, 1))
        full.drop(0)
        self.assertEqual(vault.moved(full).library(), Library(("ab",)))
        # A disk that the Vault is over already is not another one.
        own = Disk()
        self.assertIs(type(error_of(self, Vault(own).moved, own)), NoDisk)
        self.assertEqual(own.lines(), [])


if __name__ == "__main__":
    unittest.main()
