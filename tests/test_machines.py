"""7.3: machines, and the least one that tells all endings."""

import random
import unittest
from itertools import product

from everypiece.errors import NoMachine, NoText
from everypiece.libraries import Library, size
from everypiece.machines import machine_fault, machine_of, tells
from helper import (by_length, error_of, libraries, nested, odd_things, pieces_of, place_list, places_of,
                    random_library, signs_from, tiny_libraries)


def endings_of(library):
    """All unlike endings, and the empty string."""
    return {signs_from(library, place) for place in place_list(library)} | {""}


def led(machine, signs):
    """The room to which a string leads, None if to none."""
    room = 0
    for sign in signs:
        found = [other for tie, other in machine[room][1] if tie == sign]
        if not found:
            return None
        room = found[0]
    return room


def told(machine, signs):
    room = led(machine, signs)
    return room is not None and machine[room][0]


def merged(words):
    """How many rooms are left of a tree of words behind plain merging of like rooms, as long as there are any."""
    rooms = {}
    for word in words:
        for many in range(len(word) + 1):
            rooms[word[:many]] = [word[:many] in words, {}]
    for word in rooms:
        if word:
            rooms[word[:-1]][1][word[-1]] = word
    while True:
        seen, like = {}, {}
        for name, (flag, ties) in rooms.items():
            key = (flag, tuple(sorted(ties.items())))
            like[name] = seen.setdefault(key, name)
        if len(seen) == len(rooms):
            return len(rooms)
        rooms = {name: [flag, {sign: like[other] for sign, other in ties.items()}]
                 for name, (flag, ties) in rooms.items() if like[name] == name}


def least_strings(machine):
    """For each room the least string that leads to it, shorter ones first, by looking at all of a length."""
    found, front = {}, [("", 0)]
    while front:
        behind = []
        for signs, room in sorted(front):
            if room not in found:
                found[room] = signs
                behind += [(signs + sign, other) for sign, other in machine[room][1]]
        front = behind
    return found


def plain_fault(one, other):
    """The least string that just one of two machines tells, by going from pair of rooms to pair."""
    seen, front = set(), [("", 0, 0)]
    while front:
        behind = []
        for signs, room, room_other in sorted(front, key=lambda row: row[0]):
            if (room is not None and one[room][0]) != (room_other is not None and other[room_other][0]):
                return signs
            if (room, room_other) in seen:
                continue
            seen.add((room, room_other))
            ties = dict(one[room][1]) if room is not None else {}
            others = dict(other[room_other][1]) if room_other is not None else {}
            behind += [(signs + sign, ties.get(sign), others.get(sign)) for sign in sorted(set(ties) | set(others))]
        front = behind
    return None


def spoiled(chance, machine):
    """A machine with one room or tie changed, left out or more."""
    rooms = [[flag, dict(ties)] for flag, ties in machine]
    room = chance.choice(rooms)
    kind = chance.randrange(5)
    if kind == 0:
        room[0] = not room[0]
    elif kind == 1 and room[1]:
        room[1].pop(chance.choice(sorted(room[1])))
    elif kind == 2 and room[1]:
        room[1][chance.choice(sorted(room[1]))] = chance.randrange(len(rooms))
    elif kind == 3:
        room[1][chance.choice("abz ")] = chance.randrange(len(rooms))
    else:
        rooms.append([chance.random() < 0.5, dict(chance.choice(rooms)[1])])
        room[1][chance.choice("ab")] = len(rooms) - 1
    return tuple((flag, tuple(sorted(ties.items()))) for flag, ties in rooms)


def larger(chance, machine):
    """A machine that tells the same, with rooms put in twice, and numbered anew but for the first."""
    rooms = [[flag, list(ties)] for flag, ties in machine]
    for _ in range(chance.randint(1, 4)):
        old = chance.randrange(len(rooms))
        rooms.append([rooms[old][0], list(rooms[old][1])])
        for room in rooms:
            room[1] = [(sign, len(rooms) - 1 if other == old and chance.random() < 0.5 else other)
                       for sign, other in room[1]]
    order = [0] + chance.sample(range(1, len(rooms)), len(rooms) - 1)
    numbers = {old: number for number, old in enumerate(order)}
    return tuple((rooms[old][0], tuple((sign, numbers[other]) for sign, other in rooms[old][1])) for old in order)


class LeastTest(unittest.TestCase):

    def test_by_hand(self):
        for texts in ((), ("",), ("",) * 8):
            self.assertEqual(machine_of(Library(texts)), ((True, ()),))
        self.assertEqual(machine_of(Library(("a",))), ((True, (("a", 1),)), (True, ())))
        self.assertEqual(machine_of(Library(("aa", "a"))), ((True, (("a", 1),)), (True, (("a", 2),)), (True, ())))
        self.assertEqual(machine_of(Library(("ab", "b", "cb"))),
                         ((True, (("a", 1), ("b", 2), ("c", 1))), (False, (("b", 2),)), (True, ())))
        self.assertEqual(machine_of(Library(("abab",))), (
            (True, (("a", 1), ("b", 2))), (False, (("b", 2),)), (True, (("a", 3),)), (False, (("b", 4),)), (True, ())))

    def test_it_tells_just_the_endings(self):
        for library in tiny_libraries():
            machine = machine_of(library)
            right = endings_of(library)
            for signs in [""] + pieces_of(library):
                self.assertIs(tells(machine, signs), signs in right)
                self.assertIs(tells(machine, signs), told(machine, signs))
                for sign in "ab~":
                    self.assertIs(tells(machine, signs + sign), signs + sign in right)
                    self.assertIs(tells(machine, sign + signs), sign + signs in right)

    def test_each_room_leads_to_an_ending(self):
        """So the strings that lead anywhere are just the beginnings of endings: all pieces, and the empty string."""
        for library in tiny_libraries():
            machine = machine_of(library)
            front, found = [""], []
            while front:
                found += front
                front = [signs + sign for signs in front for sign, _ in machine[led(machine, signs)][1]]
            self.assertEqual(sorted(found), [""] + pieces_of(library))

    def test_none_has_fewer_rooms(self):
        for library in tiny_libraries():
            self.assertEqual(len(machine_of(library)), merged(endings_of(library)), library.texts)

    def test_fact_of_the_least_machine(self):
        for library in tiny_libraries():
            if len(library.texts) == 1:
                lots = {tuple((text, at + len(piece)) for text, at in places_of(library, piece))
                        for piece in pieces_of(library)}
                self.assertEqual(len(machine_of(library)), len(lots) + 1)

    def test_numbered_by_the_least_strings(self):
        for library in tiny_libraries() + libraries()[-9:]:
            machine = machine_of(library)
            found = least_strings(machine)
            self.assertEqual(len(found), len(machine))
            strings = [found[room] for room in range(len(machine))]
            self.assertEqual(strings, by_length(strings))
            for flag, ties in machine:
                self.assertIs(type(flag), bool)
                self.assertEqual([sign for sign, _ in ties], sorted({sign for sign, _ in ties}))
            self.assertIs(type(machine), tuple)

    def test_full_libraries(self):
        chance = random.Random(101)
        self.assertEqual(len(machine_of(Library(("a" * 2000,)))), 2001)
        self.assertEqual(len(machine_of(Library(("c" * 250,) * 8))), 251)
        self.assertEqual(len(machine_of(Library(("ab" * 1000,)))), 2001)
        for library in [other for other in libraries() if size(other) > 900] + [random_library(chance, 2000)]:
            machine = machine_of(library)
            for text in library.texts[:3]:
                for at in {0, 1, len(text) // 2, max(len(text) - 1, 0)}:
                    self.assertIs(tells(machine, text[at:]), True)
                    if text:
                        piece = text[at:at + 5]
                        self.assertIs(tells(machine, piece), any(other.endswith(piece) for other in library.texts))
                self.assertIs(tells(machine, "\\" + text[:1999]), False)


class TellsTest(unittest.TestCase):

    def test_by_hand(self):
        ring = ((False, (("a", 1),)), (True, (("a", 0), ("b", 1), ("~", 0))))
        for signs, right in (("", False), ("a", True), ("aa", False), ("aaa", True), ("abbb", True), ("b", False),
                             ("ab~", False), ("ab~a", True), ("a" * 1999, True), ("a" * 2000, False), ("ac", False)):
            self.assertIs(tells(ring, signs), right)
        self.assertIs(tells(((True, ()),), ""), True)
        self.assertIs(tells(((False, ()),), ""), False)
        self.assertIs(tells(((True, ()),), "a"), False)
        self.assertIs(tells(((True, ((" ", 0),)),), " " * 2000), True)
        self.assertIs(tells(((False, (("a", 1),)), (True, ()), (True, ())), "a"), True)

    def test_drawn_machines(self):
        chance = random.Random(102)
        for _ in range(200):
            many = chance.randint(1, 5)
            machine = tuple((chance.random() < 0.5, tuple((sign, chance.randrange(many)) for sign in "ab "[::-1][:2]
                                                          if chance.random() < 0.7)) for _ in range(many))
            machine = tuple((flag, tuple(sorted(ties))) for flag, ties in machine)
            for long in range(5):
                for signs in map("".join, product("ab ", repeat=long)):
                    self.assertIs(tells(machine, signs), told(machine, signs))


class FaultTest(unittest.TestCase):

    def test_by_hand(self):
        library = Library(("abab",))
        for thing, right in (
                (machine_of(library), None), (((True, ()),), "b"), (((False, ()),), ""),
                (((True, (("b", 0),)),), "ab"), (machine_of(Library(("bab",))), "abab"),
                (machine_of(Library(("ababb",))), "ab"), (((True, (("a", 0), ("b", 0))),), "a"),
                (((True, ((" ", 0),)),), " "), (((False, (("b", 1),)), (True, ())), "")):
            self.assertEqual(machine_fault(library, thing), right, thing)
        self.assertIsNone(machine_fault(Library(()), ((True, ()),)))
        self.assertIsNone(machine_fault(Library(()), ((True, (("a", 1),)), (False, (("a", 1), ("b", 0))[:1]))))
        self.assertEqual(machine_fault(Library(()), ((True, (("a", 1),)), (False, (("a", 1), ("b", 0))))), "ab")

    def test_machines_of_other_libraries(self):
        found = tiny_libraries()[::9]
        for library in found:
            right = endings_of(library)
            for other in found:
                unlike = by_length(right ^ endings_of(other))
                self.assertEqual(machine_fault(library, machine_of(other)), unlike[0] if unlike else None)

    def test_spoiled_in_one_room_or_tie(self):
        chance = random.Random(103)
        bad, fine = 0, 0
        for library in tiny_libraries():
            machine = machine_of(library)
            for _ in range(6):
                other = spoiled(chance, machine)
                right = plain_fault(other, machine)
                self.assertEqual(machine_fault(library, other), right, other)
                if right is not None:
                    self.assertIsNot(told(other, right), told(machine, right))
                bad, fine = bad + (right is not None), fine + (right is None)
        self.assertGreater(min(bad, fine), 50)

    def test_against_all_strings(self):
        chance = random.Random(104)
        for library in [other for other in tiny_libraries() if size(other) < 5 and set("".join(other.texts)) <= set("ab")]:
            right = endings_of(library)
            other = spoiled(chance, machine_of(library))
            strings = [signs for long in range(8) for signs in map("".join, product(" abz", repeat=long))
                       if long < 6 or not {" ", "z"} & set(signs)]
            unlike = [signs for signs in strings if told(other, signs) != (signs in right)]
            self.assertEqual(machine_fault(library, other), unlike[0] if unlike else None, (library.texts, other))

    def test_more_rooms_that_tell_the_same(self):
        chance = random.Random(105)
        for library in tiny_libraries():
            machine = machine_of(library)
            other = larger(chance, machine)
            self.assertGreater(len(other), len(machine))
            self.assertIsNone(machine_fault(library, other))
            self.assertIsNone(machine_fault(library, machine + ((True, (("q", 0),)),)))

    def test_full_machines(self):
        chance = random.Random(106)
        for library in [other for other in libraries() if size(other) > 900]:
            machine = machine_of(library)
            self.assertIsNone(machine_fault(library, machine))
            for _ in range(3):
                other = spoiled(chance, machine)
                self.assertEqual(machine_fault(library, other), plain_fault(other, machine))
        library = Library(("a" * 2000,))
        self.assertEqual(machine_fault(library, ((True, (("a", 0),)),)), "a" * 2001)
        self.assertEqual(machine_fault(library, machine_of(Library(("a" * 1999,)))), "a" * 2000)
        ring = tuple((True, (("a", (number + 1) * (number < 1998) ),)) for number in range(1999))
        self.assertEqual(machine_fault(library, ring), "a" * 2001)


class WrongTest(unittest.TestCase):

    def no_machines(self):
        machine = ((True, (("a", 1), ("b", 0))), (False, ()))
        found = [(), [], [(True, ())], ((True,),), ((True, (), ()),), ((1, ()),), ((0, ()),), ((None, ()),), ((True, []),),
                 ((True, (("a", 1),)),), ((True, (("a", -1),)),), ((True, (("a", False),)),), ((True, (("a", "0"),)),),
                 ((True, (("b", 0), ("a", 0))),), ((True, (("a", 0), ("a", 0))),), ((True, (("", 0),)),), (True, ()),
                 ((True, (("ab", 0),)),), ((True, (("\n", 0),)),), ((True, (["a", 0],)),), ([True, ()],), None, "a", 0,
                 ((True, ("a0",)),), ((True, (("a", 0, 0),)),), ((True, (("a",),)),), ((True, {"a": 0}),), {0: (True, ())},
                 machine[:1], machine + ((True, (("a", 3),)),), machine + (None,), ((True, (("a", 10 ** 19),)),)]
        for thing in odd_things():
            found += [thing, (thing,), machine + (thing,), (machine[0], (thing, ())) if type(thing) is not bool else None,
                      (machine[0], (True, thing)) if thing != () else None,
                      (machine[0], (True, (thing,))), ((True, (("a", thing),)),) if type(thing) is not int else None]
            if not (isinstance(thing, str) and len(thing) == 1 and " " <= thing <= "~"):
                found.append(((True, ((thing, 0),)),))
        return found

    def test_no_machine(self):
        library = Library(("abab",))
        for thing in self.no_machines():
            self.assertIs(type(error_of(self, tells, thing, "a")), NoMachine, thing)
            self.assertIs(type(error_of(self, machine_fault, library, thing)), NoMachine)
            self.assertIs(type(error_of(self, tells, thing, None)), NoMachine)

    def test_no_text(self):
        machine = machine_of(Library(("abab",)))
        for thing in odd_things() + ["\n", "a\n", "a" * 2001, "\x7f", b"a", ["a"], ("a",), None, 0, nested(40, list)]:
            if not (isinstance(thing, str) and len(thing) < 2001 and all(" " <= sign <= "~" for sign in thing)):
                self.assertIs(type(error_of(self, tells, machine, thing)), NoText)
        self.assertIs(tells(machine, "a" * 2000), False)


if __name__ == "__main__":
    unittest.main()
