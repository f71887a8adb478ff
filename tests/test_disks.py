"""10.1: disks, the power of which is cut, and records."""

import random
import unittest

from everypiece.disks import Disk, read_record, record
from everypiece.errors import NoCut, NoLine, NoNumber
from helper import error_of, nested, odd_things, random_text


class Account:
    """A plain account of a disk: a list of lines, each with whether it waits."""

    def __init__(self):
        self.rows = []

    def lines(self):
        return [line for line, _ in self.rows]

    def synced(self):
        return len([line for line, waits in self.rows if not waits])

    def waiting(self):
        return [line for line, waits in self.rows if waits]


def disk_with(synced, waiting):
    """A disk of such lines."""
    disk = Disk()
    for line in synced:
        disk.write(line)
    disk.sync()
    for line in waiting:
        disk.write(line)
    return disk


def state(disk):
    return (disk.lines(), disk.synced())


class DiskTest(unittest.TestCase):

    def test_by_hand(self):
        disk = Disk()
        self.assertEqual((disk.lines(), disk.synced(), disk.sync()), ([], 0, 0))
        self.assertIsNone(disk.cut(()))
        self.assertIsNone(disk.drop(0))
        self.assertEqual([disk.write("ab"), disk.write(""), disk.write("c d")], [0, 1, 2])
        self.assertEqual(state(disk), (["ab", "", "c d"], 0))
        self.assertEqual(disk.sync(), 3)
        self.assertEqual((disk.sync(), disk.synced()), (0, 3))
        self.assertEqual([disk.write("efg"), disk.write("h"), disk.write("ij")], [3, 4, 5])
        self.assertIsNone(disk.cut((2, 0, 2)))
        self.assertEqual(state(disk), (["ab", "", "c d", "ef", "", "ij"], 6))
        self.assertIsNone(disk.drop(4))
        self.assertEqual(state(disk), (["ab", "", "c d", "ef"], 4))
        self.assertEqual(disk.write("k"), 4)

    def test_drop(self):
        for number in range(6):
            disk = disk_with(["a", "b", "c"], ["d", "e"])
            self.assertIsNone(disk.drop(number))
            self.assertEqual(state(disk), (["a", "b", "c", "d", "e"][:number], min(number, 3)))
            self.assertEqual(disk.sync(), max(0, number - 3))
        disk = disk_with(["a", "b", "c"], ["d", "e"])
        for number in (6, 7, -1, True, False, None, "1", (1,), 10 ** 19):
            self.assertIs(type(error_of(self, disk.drop, number)), NoNumber)
        self.assertEqual(state(disk), (["a", "b", "c", "d", "e"], 3))

    def test_wrong_cuts(self):
        disk = disk_with(["a", "b"], ["cd", "", "e"])
        for kept in ((), (1,), (1, 0), (1, 0, 1, 0), (3, 0, 1), (2, 1, 1), (2, 0, 2), (-1, 0, 0), (1, 0, -1),
                     (True, 0, 1), (1, False, 1), (1, None, 1), ("1", 0, 1), [1, 0, 1], [1, 0], None, 3, "101",
                     ((1,), 0, 1), {0: 1}, range(3), (10 ** 19, 0, 0)):
            self.assertIs(type(error_of(self, disk.cut, kept)), NoCut, kept)
        self.assertEqual(state(disk), (["a", "b", "cd", "", "e"], 2))
        self.assertIs(type(error_of(self, disk_with(["a"], []).cut, (1,))), NoCut)
        self.assertIsNone(disk_with(["a"], []).cut(()))
        self.assertIsNone(disk.cut((0, 0, 1)))
        self.assertEqual(state(disk), (["a", "b", "", "", "e"], 5))

    def test_odd_things(self):
        disk = disk_with(["a", "b"], ["cd"])
        for thing in odd_things():
            if not (isinstance(thing, str) and (thing == "" or thing.isprintable())):
                self.assertIs(type(error_of(self, disk.write, thing)), NoLine)
                self.assertIs(type(error_of(self, record, thing)), NoLine)
                self.assertIs(type(error_of(self, read_record, thing)), NoLine)
            if thing != (0,):
                self.assertIs(type(error_of(self, disk.cut, thing)), NoCut)
            if type(thing) is not int or thing not in (0, 1, 2):
                self.assertIs(type(error_of(self, disk.cut, (thing,))), NoCut)
            if type(thing) is not int or thing not in (0, 1, 2, 3):
                self.assertIs(type(error_of(self, disk.drop, thing)), NoNumber)
        for kind in (tuple, list, dict):
            self.assertIs(type(error_of(self, disk.cut, (nested(39, kind),))), NoCut)
        self.assertEqual(state(disk), (["a", "b", "cd"], 2))

    def test_what_was_told_can_be_changed(self):
        disk = disk_with(["a"], ["b"])
        disk.lines().append("c")
        told = disk.lines()
        told[0] = "x"
        self.assertEqual(disk.lines(), ["a", "b"])
        self.assertIsNot(disk.lines(), disk.lines())

    def test_disks_are_equal_to_nothing_of_another_kind(self):
        for thing in odd_things():
            self.assertNotEqual(Disk(), thing)

    def step(self, chance, disk, account):
        """Does one drawn call with both, and compares what they tell."""
        waiting = account.waiting()
        call = chance.choice(["write"] * 6 + ["sync", "cut", "wrong cut", "drop", "wrong"])
        if call == "write":
            line = chance.choice(["", "a", random_text(chance, 9), record("ab")])
            self.assertEqual(disk.write(line), len(account.rows))
            account.rows.append([line, True])
        elif call == "sync":
            self.assertEqual(disk.sync(), len(waiting))
            account.rows = [[line, False] for line in account.lines()]
        elif call == "cut":
            kept = tuple(chance.choice([0, len(line), chance.randint(0, len(line))]) for line in waiting)
            self.assertIsNone(disk.cut(kept))
            for row, many in zip([row for row in account.rows if row[1]], kept):
                row[:] = [row[0][:many], False]
        elif call == "wrong cut":
            kept = tuple(len(line) for line in waiting)
            for thing in (kept + (0,), kept[:-1] if kept else None, list(kept), kept[:-1] + (len(waiting[-1]) + 1,)
                          if kept else (0,), kept[1:] + (-1,), kept[1:] + (True,)):
                self.assertIs(type(error_of(self, disk.cut, thing)), NoCut)
        elif call == "drop":
            number = chance.choice([0, len(account.rows), chance.randint(0, len(account.rows)), account.synced()])
            if chance.random() < 0.5 or number > 2:
                self.assertIsNone(disk.drop(number))
                del account.rows[number:]
        else:
            self.assertIs(type(error_of(self, disk.write, chance.choice(["\n", "a\nb", None, b"a", 7]))), NoLine)
            self.assertIs(type(error_of(self, disk.drop, len(account.rows) + 1)), NoNumber)
        self.assertEqual(disk.lines(), account.lines())
        self.assertEqual(disk.synced(), account.synced())

    def test_drawn_calls_beside_a_plain_account(self):
        chance = random.Random(106)
        for _ in range(60):
            disk, account = Disk(), Account()
            for _ in range(40):
                self.step(chance, disk, account)

    def test_copies_go_on_apart(self):
        chance = random.Random(107)
        for _ in range(40):
            disk, account = Disk(), Account()
            for _ in range(15):
                self.step(chance, disk, account)
            other, other_account = disk.copy(), Account()
            other_account.rows = [list(row) for row in account.rows]
            self.assertIs(type(other), Disk)
            self.assertEqual(state(other), state(disk))
            for _ in range(20):
                self.step(chance, *chance.choice([(disk, account), (other, other_account)]))
                self.assertEqual(state(disk), (account.lines(), account.synced()))
                self.assertEqual(state(other), (other_account.lines(), other_account.synced()))


class RecordTest(unittest.TestCase):

    def test_by_hand(self):
        self.assertEqual([record(line) for line in ("", "a", ":", "1:a", "0123456789", " ")],
                         ["0:", "1:a", "1::", "3:1:a", "10:0123456789", "1: "])
        for line, contents in (("0:", ""), ("1:a", "a"), ("1::", ":"), ("3:1:a", "1:a"), ("2:ab", "ab"),
                               ("", None), (":", None), (":a", None), ("00:", None), ("01:a", None), ("1:", None),
                               ("0:a", None), ("1:ab", None), ("2:a", None), ("1a", None), (" 1:a", None), ("1 :a", None),
                               ("+1:a", None), ("-0:", None), ("1_0:0123456789", None), ("a:a", None), ("10:0", None),
                               ("1.0:a", None), ("9" * 20000, None), ("9" * 5000 + ":a", None), ("0" * 9000 + ":", None)):
            self.assertEqual(read_record(line), contents, line[:20])

    def test_each_is_read_back_and_no_beginning_is_one(self):
        chance = random.Random(108)
        lines = [random_text(chance, 30) for _ in range(150)] + ["12:", "1:1:1:", ":::", "0", "00:00:", "x" * 1000]
        for line in lines + [record(line) for line in lines]:
            told = record(line)
            self.assertEqual(told, f"{len(line)}:{line}")
            self.assertEqual(read_record(told), line)
            for many in range(len(told)):
                self.assertIsNone(read_record(told[:many]))
            for other in (told + "x", "0" + told, told[1:] if len(line) > 9 else "x" + told, " " + told):
                self.assertNotEqual(read_record(other), line)
        self.assertEqual(read_record(record("x" * 20000)), "x" * 20000)

    def test_against_a_plain_reading(self):
        chance = random.Random(109)
        for _ in range(5000):
            line = "".join(chance.choice("0123:a") for _ in range(chance.randint(0, 6)))
            right = [line[at:] for at in range(len(line) + 1) if line == f"{len(line) - at}:{line[at:]}"]
            self.assertEqual(read_record(line), right[0] if right else None)


if __name__ == "__main__":
    unittest.main()
