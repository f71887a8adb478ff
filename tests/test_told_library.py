"""10.3: what lines tell, against a plain reading, and key saves, against a plain writing."""

import random
import re
import unittest

import test_edit_texts
from everypiece.blocks import blocks, levels
from everypiece.disks import Disk, record
from everypiece.errors import NoLines
from everypiece.libraries import Library
from everypiece.saves import Vault, edit_text, told_library
from helper import (error_of, libraries, nested, odd_things, plain_edit, random_edit, random_library, random_text,
                    texts_of)

PART = re.compile(r" (?:'([ -~])|(0|[1-9][0-9]*)|(-))")


def plain_parts(signs, names, with_empty):
    """What the parts tell, None if one is none."""
    found, at = [], 0
    while at < len(signs):
        part = PART.match(signs, at)
        if not part or part[2] and part[2] not in names or part[3] and not with_empty:
            return None
        found.append(part[1] or ("" if part[3] else names[part[2]]))
        at = part.end()
    return found


def plain_step(texts, names, number, line):
    """The texts behind a line, None if it tells nothing; a block line's name is put to the names."""
    head, colon, contents = line.partition(":")
    if not colon or head != str(len(contents)):
        return None
    found = re.fullmatch("(block|key|edit)(.*)", contents)
    if not found:
        return None
    if found[1] == "edit":
        edit = test_edit_texts.plain_read(found[2][1:]) if found[2][:1] == " " else None
        rows = edit and plain_edit(Library(texts), edit)
        return None if rows is None else texts_of(rows)
    parts = plain_parts(found[2], names, found[1] == "key")
    if parts is None or sum(map(len, parts)) > 2000:
        return None
    if found[1] == "key":
        return tuple(parts) if len(parts) <= 8 else None
    if parts:
        names[str(number)] = "".join(parts)
    return texts if parts else None


def plain_told(lines):
    """The texts that lines tell, how many tell something, and a dict from numbers of block lines to names."""
    texts, names = (), {}
    for many, line in enumerate(lines):
        then = plain_step(texts, names, many, line)
        if then is None:
            return texts, many, names
        texts = then
    return texts, len(lines), names


def plain_key(library, names, first):
    """The pairs (level, contents) of the lines of a key save, the first of which has this number.

    Names are a dict from each name to its line's number; those that are new are put to it.
    """
    found = []

    def part(name):
        return "-" if not name else "'" + name if len(name) == 1 else str(names[name])

    for text in library.texts:
        for level in range(1, len(levels(text))):
            below = list(blocks(text, level - 1))
            for name in blocks(text, level):
                parts = []
                while sum(map(len, parts)) < len(name):
                    parts.append(below.pop(0))
                if len(name) > 1 and name not in names:
                    contents = " ".join(["block"] + [part(other) for other in parts])
                    names[name] = first + len(found)
                    found.append((level, contents))
    return found + [(None, " ".join(["key"] + [part(text) for text in library.texts]))]


def key_lines(library):
    """The lines of a key save on a new disk, written plainly."""
    return [record(contents) for _, contents in plain_key(library, {}, 0)]


def drawn_lines(chance, most=40):
    """Lines of a Vault, led by drawn calls."""
    disk = Disk()
    vault = Vault(disk)
    for _ in range(chance.randint(0, 9)):
        if chance.random() < 0.3:
            vault.save()
        elif chance.random() < 0.2:
            vault.edit(("come", random_text(chance, 12))) if len(vault.library().texts) < 8 else vault.save()
        else:
            vault.edit(random_edit(chance, vault.library()))
        if sum(map(len, vault.library().texts)) > most:
            text = max(range(len(vault.library().texts)), key=lambda number: len(vault.library().texts[number]))
            vault.edit(("cut", text, 0, len(vault.library().texts[text])))
    return disk.lines()


class ToldLibraryTest(unittest.TestCase):

    def check(self, lines):
        texts, many, _ = plain_told(lines)
        told = told_library(lines)
        self.assertEqual(told, (Library(texts), many), lines)
        self.assertIs(type(told), tuple)
        self.assertEqual(told_library(tuple(lines)), told)
        return texts, many

    def test_by_hand(self):
        for contents, texts, many in (
                ([], (), 0), (["key"], (), 1), (["key -"], ("",), 1), (["key - - - - - - - -"], ("",) * 8, 1),
                (["key - - - - - - - - -"], (), 0), (["key 'a"], ("a",), 1), (["key '  - ''"], (" ", "", "'"), 1),
                (["key ' - '"], (), 0), (["key '-"], ("-",), 1), (["key a"], (), 0), (["key  'a"], (), 0),
                (["key 'ab"], (), 0), (["key 'a "], (), 0), (["keyx"], (), 0), (["key'a"], (), 0), (["Key"], (), 0),
                (["block"], (), 0), (["block "], (), 0), (["block -"], (), 0), (["block 'a -"], (), 0),
                (["block 'a"], (), 1), (["block 'a", "key 0"], ("a",), 2), (["block 'a 'b", "key 0 0 'c"], ("ab", "ab", "c"), 2),
                (["block 'a 'b", "block 0 0 ' ", "key 1"], ("abab ",), 3), (["block 'a 'b", "key 00"], (), 1),
                (["block 'a 'b", "key 1"], (), 1), (["block 0 'a"], (), 0), (["block 1 'a", "block 'a 'b"], (), 0),
                (["block 'a 'b", "key", "key 1"], (), 2), (["block 'a 'b", "key 0", "edit go", "key"], ("ab",), 2),
                (["edit come ab", "edit put 0 1 x"], ("axb",), 2), (["edit go"], (), 0), (["edit"], (), 0), (["edit "], (), 0),
                (["edit come "], ("",), 1), (["edit come", "key"], (), 0), (["edit  come a"], (), 0),
                (["edit come ab", "key", "edit come c"], ("c",), 3), (["edit come ab", "block 'a 'b", "edit cut 0 0 1"], ("b",), 3),
                (["edit come ab", "edit cut 0 0 3", "edit go"], ("ab",), 1), (["block 'a 'b", "key -0"], (), 1),
                (["block 'a 'b", "key +0"], (), 1), (["block 'a 'b", "key 0-"], (), 1), (["key --"], (), 0),
                (["key -", "edit go", "block 'x 'y", "edit come z", "key 2 - 2"], ("xy", "", "xy"), 5)):
            lines = [record(line) for line in contents]
            self.assertEqual(self.check(lines), (texts, many), contents)

    def test_most_signs(self):
        lines = ["block" + " 'a" * 1000, "block 0 0", "block 1 'b", "key 1", "key 1 'b"]
        self.assertEqual(self.check([record(line) for line in lines])[1], 2)
        del lines[2]
        self.assertEqual(self.check([record(line) for line in lines]), (("a" * 2000,), 3))
        lines[3:] = ["key 1 -", "edit put 0 0 a", "edit cut 0 0 1"]
        self.assertEqual(self.check([record(line) for line in lines]), (("a" * 2000, ""), 4))
        lines[3:] = ["key 0 0", "key 0 0 0"]
        self.assertEqual(self.check([record(line) for line in lines]), (("a" * 1000,) * 2, 4))
        wide = ["block" + " 'a" * 1000, "block" + " 0" * 9990, "key"]
        self.assertEqual(self.check([record(line) for line in wide])[1], 1)
        self.assertEqual(self.check([record("block" + " 'a" * 2001), record("key")])[1], 0)
        self.assertEqual(self.check([record("key " + "9" * 15000)])[1], 0)

    def test_no_records(self):
        for line in ("", "key", ":key", "03:key", "4:key", "2:key", "3:key ", " 3:key", "7:edit go\x7e"):
            self.assertEqual(self.check([record("edit come a"), line, record("key")]), (("a",), 1))
        self.assertEqual(self.check(["3:key", "3:key"]), ((), 2))

    def test_lines_are_left_out_exchanged_spoiled_and_put_in(self):
        chance = random.Random(112)
        seen = {"whole": 0, "short": 0}
        for _ in range(250):
            lines = drawn_lines(chance)
            self.assertEqual(self.check(lines)[1], len(lines))
            for _ in range(12):
                other = self.spoiled(chance, list(lines))
                _, many = self.check(other)
                seen["whole" if many == len(other) else "short"] += 1
        self.assertGreater(min(seen.values()), 300, seen)

    def spoiled(self, chance, lines):
        """Lines, one of which is left out, exchanged, spoiled, or has another one ahead of it."""
        number = chance.randint(0, len(lines))
        way = chance.choice(["out", "two", "sign", "cut", "in", "own"])
        new = [record(line) for line in (
            "key 0 0", "key 3 -", "key - 'a", "block 0 1", "block 'a 2 'b", f"block {number}", f"block {number - 1} 'a",
            f"key {number - 1} {number}", "edit come ab", "edit go", "edit put 0 1 x", "edit cut 0 0 1", "edit split 0 1",
            "edit join 0 1", "edit move 0 0 1 1 0", "key" + " -" * 9, "block", "edit", "", "key 00")] + ["", "key", "0:", "3:kez"]
        if way == "in" or not lines:
            lines.insert(number, chance.choice(new))
            return lines
        number = min(number, len(lines) - 1)
        if way == "out":
            del lines[number]
        elif way == "two":
            other = chance.randrange(len(lines))
            lines[number], lines[other] = lines[other], lines[number]
        elif way == "own":
            lines[number] = chance.choice(new)
        else:
            line = lines[number]
            at = chance.randrange(len(line))
            if way == "cut":
                lines[number] = line[:at]
            else:
                sign = chance.choice(" '0123-abk:")
                spoiled = chance.choice([line[:at] + sign + line[at + 1:], line[:at] + line[at + 1:],
                                         line[:at] + sign + line[at:]])
                # A line that is a record again tells more of what stands within.
                contents = spoiled.partition(":")[2]
                lines[number] = record(contents) if chance.random() < 0.8 else spoiled
        return lines

    def test_no_lines(self):
        for thing in odd_things() + [["a", None], ["a", "\n"], ("a", b"a"), [["a"]], (("a",),), {"a"}, "key", {"3:key": 1},
                                     ["3:key", 3], [True], nested(40, list), ["3:key"] * 9 + [("3:key",)]]:
            if isinstance(thing, (list, tuple)) and all(isinstance(line, str) and line.isprintable() for line in thing):
                self.assertEqual(told_library(thing), (Library(()), 0), thing)
            else:
                self.assertIs(type(error_of(self, told_library, thing)), NoLines)
        self.assertEqual(told_library(["3:key"] * 19999)[1], 19999)


class KeySaveTest(unittest.TestCase):

    def saved(self, library):
        """The lines of a key save on a new disk, behind the edits that the library comes by."""
        vault = Vault(Disk())
        for text in library.texts:
            vault.edit(("come", text))
        disk = Disk()
        vault.moved(disk)
        return disk.lines()

    def test_by_hand(self):
        for texts, contents in (
                ((), ["key"]), (("",), ["key -"]), (("a",), ["key 'a"]), ((" ", "", "'"), ["key '  - ''"]),
                (("ab",), ["block 'a 'b", "key 0"]), (("abab",), ["block 'a 'b", "block 0 0", "key 1"]),
                (("ab", "ab"), ["block 'a 'b", "key 0 0"]), (("aaaa", "-"), ["block 'a 'a 'a 'a", "key 0 '-"]),
                (("  ",), ["block '  ' ", "key 0"])):
            self.assertEqual(self.saved(Library(texts)), [record(line) for line in contents])

    def test_against_a_plain_writing(self):
        chance = random.Random(113)
        for library in libraries() + [random_library(chance, 2000) for _ in range(12)]:
            lines = key_lines(library)
            self.assertEqual(self.saved(library), lines)
            self.assertEqual(told_library(lines), (library, len(lines)))
            names = plain_told(lines)[2]
            self.assertEqual(len(set(names.values())), len(lines) - 1)
            self.assertTrue(all(len(name) > 1 for name in names.values()))

    def test_edits_behind_a_key_save(self):
        chance = random.Random(114)
        for _ in range(60):
            library = random_library(chance, 40)
            lines = key_lines(library)
            for _ in range(chance.randint(0, 5)):
                edit = random_edit(chance, library)
                library = Library(texts_of(plain_edit(library, edit)))
                lines.append(record("edit " + edit_text(edit)))
            self.assertEqual(told_library(lines), (library, len(lines)))


if __name__ == "__main__":
    unittest.main()
