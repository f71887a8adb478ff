"""11.3: Desks, led by drawn lines beside a plain account."""

import copy
import random
import unittest

from everypiece.desks import Desk
from everypiece.edits import leading_back
from everypiece.errors import (BadPattern, NoAsk, NoEdit, NoLine, NoName, NoNumber, NoPlace, NoText, NothingDone,
                               PieceError, TooMany)
from everypiece.libraries import Library
from everypiece.patterns import read_pattern
from everypiece.pictures import drawn_blocks, drawn_fits
from everypiece.saves import read_edit
from everypiece.tongues import asked
from helper import error_of, odd_things, plain_edit, random_edit, random_text, texts_of
from test_told_library import key_lines
from test_vaults import Account, edit_line

NAMES = ("a", "bb", "zzzzzzzz", "new")


def desk_with(*lines):
    desk = Desk()
    for line in lines:
        desk.tell(line)
    return desk


def tell_all(desk, line):
    """What a desk tells for a line again and again, until it raises an error."""
    found = []
    while True:
        try:
            found.append(desk.tell(line))
        except PieceError as error:
            return found + [type(error)]


def state(desk):
    """All that can be seen of a desk, by copies of it that are led on."""
    found = {}
    for name in NAMES:
        try:
            found[name] = [desk.tell("lines " + name)]
        except NoName:
            continue
        numbers = range(9)
        found[name] += [outcome(desk, f"text {name} {number}") for number in numbers]
        found[name] += [copy.deepcopy(desk).tell(word + " " + name) for word in ("sync", "save")]
        found[name] += [tell_all(copy.deepcopy(desk), "back " + name)]
        found[name] += [copy.deepcopy(desk).tell(f"cut {name} {many}") for many in (0, 10, 50, 999999999)]
    return found


def outcome(desk, line):
    """What a desk tells, or the error that it raises."""
    try:
        return desk.tell(line)
    except PieceError as error:
        return (type(error), vars(error))


class PlainDesk:
    """A plain account: for each name that of its Vault and disk, and a list of edits, with the texts ahead of each."""

    def __init__(self):
        self.accounts = {}
        self.done = {}

    def make(self, name, lines):
        self.accounts[name] = Account(lines)
        self.done[name] = []
        return self.accounts[name]

    def step(self, account, edit):
        account.texts = texts_of(plain_edit(Library(account.texts), edit))
        account.lines.append(edit_line(edit))

    def tell(self, word, name, rest):
        """What a line tells, if it has no fault."""
        if word == "new":
            self.make(name, [])
            return "ok"
        account = self.accounts[name]
        if word == "edit":
            self.done[name].append((account.texts, rest))
            self.step(account, rest)
            return str(sum(map(len, account.texts)))
        if word == "back":
            ahead, edit = self.done[name].pop()
            for other in leading_back(Library(ahead), edit):
                self.step(account, other)
            assert account.texts == ahead
            return str(len(self.done[name]))
        if word == "sync":
            many, account.synced = len(account.lines) - account.synced, len(account.lines)
            return str(many)
        if word == "save":
            return str(account.save())
        if word == "lines":
            return str(len(account.lines))
        if word == "cut":
            waiting = "".join(account.lines[account.synced:])
            there, sizes = waiting[:rest], [len(line) for line in account.lines[account.synced:]]
            left = []
            for size in sizes:
                left.append(there[:size])
                there = there[size:]
            return str(len(self.make(name, account.lines[:account.synced] + left).lines))
        if word == "move":
            self.make(rest, key_lines(Library(account.texts)))
            return "ok"
        if word == "text":
            return account.texts[rest]
        if word == "ask":
            return asked(Library(account.texts), rest)
        if word == "blocks":
            return drawn_blocks(account.texts[rest]).replace("\n", "|")
        return drawn_fits(Library(account.texts), read_pattern(rest)).replace("\n", "|")


class DeskTest(unittest.TestCase):

    def test_by_hand(self):
        desk = Desk()
        for line, told in (
                ("new a", "ok"), ("lines a", "0"), ("edit a come abab", "4"), ("text a 0", "abab"), ("edit a put 0 4  c", "6"),
                ("text a 0", "abab c"), ("edit a come ", "6"), ("text a 1", ""), ("ask a count ab", "2"), ("ask a where b", "0:1 0:3"),
                ("ask a first zz", "none"), ("lines a", "3"), ("sync a", "3"), ("sync a", "0"), ("back a", "2"), ("lines a", "4"),
                ("back a", "1"), ("text a 0", "abab"), ("save a", "2"), ("save a", "0"), ("lines a", "9"), ("back a", "0"),
                ("lines a", "11"), ("ask a pieces", "0"), ("edit a come xyz", "3"), ("cut a 29", "11"),
                ("edit a come xyz", "3"), ("edit a come u", "4"), ("cut a 26", "12"), ("text a 0", "xyz"),
                ("move a b", "ok"), ("lines b", "3"), ("text b 0", "xyz"), ("blocks a 0", "xyz|||.||..|"),
                ("draw a ?z", "xyz|.^-|"), ("draw a zz", "xyz|...|"), ("move b b", "ok"), ("new a", "ok"), ("lines a", "0"),
                ("text b 0", "xyz"), ("new new", "ok"), ("edit new come new new", "7"), ("text new 0", "new new")):
            self.assertEqual(desk.tell(line), told, line)

    def test_back(self):
        desk = desk_with("new a")
        for text in ("come abcdef", "come gh", "put 0 2 xx", "cut 1 0 1", "change 0 0 zz", "split 0 3", "join 1 2",
                     "move 1 0 2 0 1", "go"):
            desk.tell("edit a " + text)
        texts = []
        for number in range(8, -1, -1):
            self.assertEqual(desk.tell("back a"), str(number))
            texts.append((outcome(desk, "text a 0"), outcome(desk, "text a 1")))
        gone = (NoText, {})
        self.assertEqual(texts, [
            ("zhxzx", "cdef"), ("zzx", "hxcdef"), ("zzx", "h"), ("zzxxcdef", "h"), ("abxxcdef", "h"), ("abxxcdef", "gh"),
            ("abcdef", "gh"), ("abcdef", gone), (gone, gone)])
        self.assertIs(type(error_of(self, desk.tell, "back a")), NothingDone)

    def test_nothing_to_take_back_behind_new_cut_and_move(self):
        for line, name in (("new a", "a"), ("cut a 99999", "a"), ("cut a 0", "a"), ("move a b", "b"), ("move b a", "a"),
                           ("move a a", "a")):
            desk = desk_with("new b", "edit b come y", "new a", "edit a come x", "edit a put 0 1 y", line)
            self.assertIs(type(error_of(self, desk.tell, "back " + name)), NothingDone)
        desk = desk_with("new a", "edit a come x", "edit a put 0 1 y", "move a b", "edit b put 0 0 z")
        self.assertEqual([desk.tell(line) for line in ("back a", "back b", "back a")], ["1", "0", "0"])
        self.assertEqual((desk.tell("text b 0"), desk.tell("ask a pieces")), ("xy", "0"))

    def test_saves_and_syncs_are_no_edits(self):
        desk = desk_with("new a", "edit a come x", "save a", "sync a", "lines a", "ask a pieces")
        self.assertEqual(desk.tell("back a"), "0")

    def test_each_cut(self):
        lines = [edit_line(edit) for edit in (("come", "ab"), ("put", 0, 1, "cc"), ("come", ""))]
        for many in range(sum(map(len, lines)) + 3):
            desk = desk_with("new a", "edit a come ab", "edit a put 0 1 cc", "edit a come ")
            there = len([1 for number in range(3) if sum(map(len, lines[:number + 1])) <= many])
            self.assertEqual(desk.tell(f"cut a {many}"), str(there))
            self.assertEqual(desk.tell("lines a"), str(there))
            self.assertEqual(desk.tell("sync a"), "0")
            self.assertEqual(outcome(desk, "text a 0"), [(NoText, {}), "ab", "accb", "accb"][there])

    def test_no_lines(self):
        desk = desk_with("new a", "edit a come ab")
        before = state(desk)
        for line in ("", " ", "new", "new ", "new  a", "new a ", " new a", "New a", "new A", "new a1", "new a-b", "new a b",
                     "new abcdefghi", "new \n", "new a\n", "news a", "edit", "edit a", "edit  a go", "edit A go", "edit 1 go",
                     "text", "text a", "text a ", "text a 00", "text a 01", "text a -1", "text a 0 ", "text a  0",
                     "text a 1234567890", "text a 0000000001", "text a x", "text a 0 0", "ask", "ask a", "sync", "sync ",
                     "sync a ", "sync a b", "save a ", "save", "lines", "lines a 0", "cut", "cut a", "cut a ", "cut a 01",
                     "cut a 1234567890", "cut a -1", "cut a 1 ", "cut a b", "move", "move a", "move a ", "move a B", "move a b c",
                     "move a b ", "move  a b", "move a  b", "move a abcdefghi", "back", "back ", "back a ", "back a 1", "blocks",
                     "blocks a", "blocks a ", "blocks a 01", "blocks a x", "draw", "draw a", "draw a ", "drawn a a", "a", "tell a",
                     "edit a come x\n", "ask a pieces\n", "draw a a\n", "lines a\n", "new " + "9" * 5000, "cut a " + "9" * 5000):
            self.assertIs(type(error_of(self, desk.tell, line)), NoLine, line)
        for thing in odd_things() + [b"new a", ["new a"], ("new", "a"), 7, None]:
            self.assertIs(type(error_of(self, desk.tell, thing)), NoLine)
        self.assertEqual(state(desk), before)

    def test_no_names(self):
        desk = desk_with("new a", "edit a come ab")
        before = state(desk)
        for rest in ("edit b go", "edit b nothing", "text b 0", "text b 999999999", "ask b pieces", "ask b nothing", "sync b",
                     "save b", "lines b", "cut b 0", "move b a", "move b b", "move b c", "back b", "blocks b 9", "draw b a{"):
            error = error_of(self, desk.tell, rest)
            self.assertEqual((type(error), vars(error)), (NoName, {"name": "b"}))
        self.assertEqual(state(desk), before)
        self.assertEqual(desk.tell("move a b"), "ok")

    def test_errors_of_the_functions(self):
        desk = desk_with("new a", "edit a come abab", "edit a come " + "a" * 1900, "new bb")
        before = state(desk)
        for line, kind in (
                ("edit a nothing", NoEdit), ("edit a go", NoEdit), ("edit a come  " + "a" * 99, NoEdit), ("edit a put 0 5 x", NoEdit),
                ("edit a put 0 1", NoEdit), ("edit a put 0 1 ", NoEdit), ("edit a cut 0 0 0", NoEdit), ("edit a go ", NoEdit),
                ("edit a ", NoEdit), ("edit a  go", NoEdit), ("edit bb go", NoEdit), ("edit a join 0 0", NoEdit),
                ("edit a put 00 1 x", NoEdit), ("text a 2", NoText), ("text a 999999999", NoText), ("text bb 0", NoText),
                ("blocks a 2", NoText), ("blocks bb 0", NoText), ("ask a nothing", NoAsk), ("ask a ", NoAsk), ("ask a count ", NoAsk),
                ("ask a piece 999999999", NoNumber), ("ask a alone 9 9", NoPlace), ("ask a fits a{", BadPattern),
                ("ask a fits a{0,20}a", TooMany), ("draw a a{", BadPattern), ("draw a {", BadPattern), ("back bb", NothingDone)):
            self.assertIs(type(error_of(self, desk.tell, line)), kind, line)
        self.assertEqual(error_of(self, desk.tell, "draw a  [ba]").place, 3)
        self.assertEqual(state(desk), before)
        self.assertEqual(desk.tell("draw bb a"), "")
        self.assertEqual(desk.tell("draw a a{0,20}a")[:10], "abab|^--.|")

    def drawn(self, chance, plain):
        """A line in parts (word, name, rest), which may have a fault."""
        word = chance.choice(["new", "edit", "edit", "edit", "edit", "edit", "edit", "sync", "save", "lines", "cut", "move",
                              "back", "back", "text", "ask", "blocks", "draw"])
        name = chance.choice(NAMES)
        account = plain.accounts.get(name)
        if word == "new":
            return (word, name, None) if account is None or chance.random() < 0.2 else ("lines", name, None)
        if word == "edit":
            library = Library(account.texts) if account else Library(())
            if chance.random() < 0.1:
                return word, name, ("cut", 0, 0, 2001)
            if sum(map(len, library.texts)) > 60:
                return word, name, ("cut", max(range(len(library.texts)), key=lambda at: len(library.texts[at])), 0, 5)
            return word, name, random_edit(chance, library)
        rests = {"text": chance.randint(0, 4), "blocks": chance.randint(0, 4), "move": chance.choice(NAMES),
                 "cut": chance.choice([0, 5, 20, 40, 100, 999999999]), "draw": chance.choice(["a", "a?", "?{0,2}[ab]", "{", "a["]),
                 "ask": chance.choice(["pieces", "count a", "where ab", "gap a", "nearest ab", "repeat", "piece 3", "nothing", "count "])}
        return word, name, rests.get(word)

    def test_drawn_lines_beside_a_plain_account(self):
        chance = random.Random(125)
        raised = {}
        for _ in range(60):
            desk, plain = Desk(), PlainDesk()
            for _ in range(50):
                word, name, rest = self.drawn(chance, plain)
                text = " ".join(map(str, rest)) if word == "edit" else rest
                line = f"{word} {name}" + ("" if rest is None else f" {text}")
                before = state(desk) if chance.random() < 0.05 else None
                told = outcome(desk, line)
                self.assertEqual(told, self.right(plain, word, name, rest, told), line)
                if isinstance(told, tuple):
                    raised[told[0]] = raised.get(told[0], 0) + 1
                    self.assertIn(before, (None, state(desk)))
            for name, account in plain.accounts.items():
                self.assertEqual(desk.tell("lines " + name), str(len(account.lines)))
                texts = [desk.tell(f"text {name} {number}") for number in range(len(account.texts))]
                self.assertEqual(tuple(texts), account.texts)
                self.assertEqual(desk.tell("sync " + name), str(len(account.lines) - account.synced))
        for kind in (NoName, NoEdit, NoText, NothingDone, BadPattern, NoAsk):
            self.assertGreater(raised.get(kind, 0), 5, kind)

    def right(self, plain, word, name, rest, told):
        """What the plain account tells, or the error that is due."""
        if word != "new" and name not in plain.accounts:
            return (NoName, {"name": name})
        texts = plain.accounts[name].texts if word != "new" else ()
        if word == "edit" and (read_edit(" ".join(map(str, rest))) is None or plain_edit(Library(texts), rest) is None):
            return (NoEdit, {})
        if word == "back" and not plain.done[name]:
            return (NothingDone, {})
        if word in ("text", "blocks") and rest >= len(texts):
            return (NoText, {})
        try:
            return plain.tell(word, name, rest)
        except (BadPattern, NoAsk, NoNumber) as error:
            return (type(error), vars(error))

    def test_names_go_on_apart(self):
        desk = desk_with("new a", "new bb", "edit a come x", "edit bb come yy", "save bb", "cut a 0")
        self.assertEqual([desk.tell(line) for line in ("lines a", "lines bb", "text bb 0")], ["0", "3", "yy"])
        other = Desk()
        self.assertIs(type(error_of(self, other.tell, "lines a")), NoName)

    def test_texts_with_bars_and_blanks(self):
        chance = random.Random(126)
        for _ in range(60):
            text = chance.choice([" ", "|", " a ", "0", "a|b", random_text(chance, 30)])
            desk = desk_with("new a", "edit a come " + text)
            self.assertEqual(desk.tell("text a 0"), text)
            self.assertEqual(desk.tell("blocks a 0"), drawn_blocks(text).replace("\n", "|"))
            if text:
                self.assertEqual(desk.tell("ask a count " + text), "1")


if __name__ == "__main__":
    unittest.main()
