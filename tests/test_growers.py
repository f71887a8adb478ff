"""7.4: the states of one text that grows behind."""

import random
import unittest
from itertools import product

from everypiece.errors import NoSign, NoState, NoText, TooMany
from everypiece.growers import Grower
from everypiece.libraries import Library
from everypiece.machines import machine_of
from helper import error_of, nested, odd_things, random_text


def ends_of(text):
    """A dict from each piece, and the empty string, to the tuple of how many signs are ahead of where it ends."""
    found = {}
    for end in range(len(text) + 1):
        for begin in range(end + 1):
            found.setdefault(text[begin:end], []).append(end)
    return {piece: tuple(sorted(set(ends))) for piece, ends in found.items()}


def texts():
    chance = random.Random(111)
    return (["".join(signs) for many in range(7) for signs in product("ab", repeat=many)]
            + [random_text(chance, 24) for _ in range(60)] + ["a" * 15, "ab" * 9, "abcabcabcab", "abaababaabaab", "aaabaaab"])


def grown(text):
    grower = Grower()
    for sign in text:
        grower.put(sign)
    return grower


class GrowerTest(unittest.TestCase):

    def check(self, grower, text):
        """A grower is as the pieces and their ends, taken one by one, tell."""
        found = ends_of(text)
        lots = {}
        for piece, ends in found.items():
            lots.setdefault(ends, []).append(piece)
        numbers = {ends: grower.state_of(pieces[0]) for ends, pieces in lots.items()}
        self.assertEqual(sorted(numbers.values()), list(range(len(lots))))
        self.assertEqual(grower.text(), text)
        self.assertEqual(len(grower.lots()), len(lots))
        for ends, pieces in lots.items():
            state = numbers[ends]
            for piece in pieces:
                self.assertEqual(grower.state_of(piece), state)
            longest = max(pieces, key=len)
            self.assertEqual(grower.lots()[state], (min(map(len, pieces)), len(longest)))
            self.assertEqual(grower.ends(state), list(ends))
            self.assertEqual(grower.ties(state), tuple((sign, numbers[found[longest + sign]])
                                                       for sign in sorted(set(text)) if longest + sign in found))
            others = [longest[cut:] for cut in range(len(longest) + 1) if found[longest[cut:]] != ends]
            self.assertEqual(grower.link(state), numbers[found[others[0]]] if others else None)

    def test_by_hand(self):
        grower = Grower()
        self.check(grower, "")
        self.assertEqual(grower.lots(), [(0, 0)])
        self.assertEqual(grower.ends(0), [0])
        self.assertEqual(grower.ties(0), ())
        self.assertIsNone(grower.link(0))
        self.assertEqual([grower.put(sign) for sign in "abb"], [1, 1, 2])
        self.assertEqual(grower.lots(), [(0, 0), (1, 1), (2, 2), (2, 3), (1, 1)])
        self.assertEqual(grower.ends(0), [0, 1, 2, 3])
        self.assertEqual([grower.ends(state) for state in range(1, 5)], [[1], [2], [3], [2, 3]])
        self.assertEqual([grower.link(state) for state in range(5)], [None, 0, 4, 4, 0])
        self.assertEqual(grower.ties(0), (("a", 1), ("b", 4)))
        self.assertEqual([grower.ties(state) for state in range(1, 5)], [(("b", 2),), (("b", 3),), (), (("b", 3),)])
        self.assertEqual([grower.state_of(signs) for signs in ("", "a", "ab", "b", "bb", "abb", "ba", "c")],
                         [0, 1, 2, 4, 3, 3, None, None])

    def test_put_sign_by_sign(self):
        for text in texts():
            grower = Grower()
            self.check(grower, "")
            for many in range(1, len(text) + 1):
                before = {piece: grower.state_of(piece) for piece in ends_of(text[:many - 1])}
                elder = len(grower.lots())
                made = grower.put(text[many - 1])
                self.check(grower, text[:many])
                self.check_made(grower, before, elder, made, text[:many])

    def check_made(self, grower, before, elder, made, text):
        """The whole text has the next number; a second one is of pieces of one elder state that end in one more place."""
        self.assertIn(made, (1, 2))
        self.assertEqual(len(grower.lots()), elder + made)
        self.assertEqual(grower.state_of(text), elder)
        split = [piece for piece in before if grower.state_of(piece) != before[piece]]
        self.assertEqual(bool(split), made == 2)
        for piece in split:
            self.assertEqual(grower.state_of(piece), elder + 1)
            self.assertTrue(text.endswith(piece))
        if split:
            self.assertEqual(len({before[piece] for piece in split}), 1)
            left = [piece for piece in before if before[piece] == before[split[0]] and piece not in split]
            self.assertGreater(min(map(len, left)), max(map(len, split)))

    def test_fact_of_growing(self):
        chance = random.Random(112)
        for text in texts() + [random_text(chance, 2000) for _ in range(9)] + ["a" + "b" * 700, "ab" + "b" * 700 + "c"]:
            grower = grown(text)
            many = len(grower.lots())
            self.assertLessEqual(many, 2 * len(text) + 1)
            ties = sum(len(grower.ties(state)) for state in range(many))
            self.assertLessEqual(ties, 3 * len(text))
            for state in range(1, many, max(1, many // 40)):
                self.assertLess(len(grower.ends(state)), len(grower.ends(grower.link(state))))
                self.assertLessEqual(set(grower.ends(state)), set(grower.ends(grower.link(state))))

    def test_as_many_states_as_rooms(self):
        for text in texts():
            self.assertEqual(len(grown(text).lots()), len(machine_of(Library((text,)))))

    def test_full_texts(self):
        chance = random.Random(113)
        for text in ("a" * 2000, "ab" * 1000, "".join(chance.choice("abc") for _ in range(2000))):
            grower = grown(text)
            self.assertEqual(grower.text(), text)
            for piece in (text, text[:7], text[-3:], text[500:1500], text[3]):
                state = grower.state_of(piece)
                self.assertEqual(grower.ends(state), [end for end in range(2001) if text[:end].endswith(piece)])
                least, most = grower.lots()[state]
                self.assertTrue(least <= len(piece) <= most)
            before = (grower.lots(), [grower.ties(state) for state in range(len(grower.lots()))])
            for sign in ("a", "~"):
                error = error_of(self, grower.put, sign)
                self.assertIs(type(error), TooMany)
                self.assertEqual(error.most, 2000)
            for thing in (None, "", "ab", 0):
                self.assertIs(type(error_of(self, grower.put, thing)), NoSign)
            self.assertEqual(grower.text(), text)
            self.assertEqual((grower.lots(), [grower.ties(state) for state in range(len(grower.lots()))]), before)
            self.assertIs(type(error_of(self, grower.copy().put, "a")), TooMany)

    def test_copies_go_on_apart(self):
        chance = random.Random(114)
        for text in texts()[::5]:
            grower = grown(text)
            other = grower.copy()
            self.assertIs(type(other), Grower)
            self.check(other, text)
            signs = [chance.choice("abc") for _ in range(4)]
            for number, sign in enumerate(signs):
                self.assertEqual(other.put(sign), grown(text + "".join(signs[:number])).put(sign))
            self.check(grower, text)
            self.check(other, text + "".join(signs))
            grower.put("x")
            self.check(grower, text + "x")
            self.check(other, text + "".join(signs))
            self.check(other.copy().copy(), other.text())

    def test_new_lists(self):
        grower = grown("abb")
        grower.lots().clear()
        grower.ends(0)[:] = [9]
        self.check(grower, "abb")
        for call, kind in ((grower.lots, list), (grower.text, str), (lambda: grower.ends(4), list),
                           (lambda: grower.ties(0), tuple), (lambda: grower.link(1), int)):
            self.assertIs(type(call()), kind)

    def test_all_signs(self):
        text = "".join(chr(number) for number in range(126, 31, -1))
        grower = grown(text)
        self.assertEqual([sign for sign, _ in grower.ties(0)], sorted(text))
        self.check(grown(" ~ ~~ "), " ~ ~~ ")


class WrongTest(unittest.TestCase):

    def test_no_sign(self):
        for text in ("", "abab"):
            grower = grown(text)
            for thing in odd_things() + ["", "ab", "\n", "\x7f", b"a", ["a"], ("a",), None, 97, nested(40, tuple)]:
                if not (isinstance(thing, str) and len(thing) == 1 and " " <= thing <= "~"):
                    self.assertIs(type(error_of(self, grower.put, thing)), NoSign)
            self.assertEqual(grower.text(), text)
            self.assertEqual(grower.lots(), grown(text).lots())

    def test_no_state(self):
        for text in ("", "a", "abb", "a" * 9):
            grower = grown(text)
            many = len(grower.lots())
            for thing in odd_things() + [many, many + 1, -1, True, False, None, "0", (0,), [0], 10 ** 19]:
                if type(thing) is not int or not 0 <= thing < many:
                    for call in (grower.ties, grower.link, grower.ends):
                        self.assertIs(type(error_of(self, call, thing)), NoState)

    def test_no_text(self):
        for grower in (Grower(), grown("abab")):
            for thing in odd_things() + ["\n", "a\n", "\x7f", "a" * 2001, b"a", ["a"], ("a",), None, 0]:
                if not (isinstance(thing, str) and len(thing) < 2001 and all(" " <= sign <= "~" for sign in thing)):
                    self.assertIs(type(error_of(self, grower.state_of, thing)), NoText)
            self.assertIsNone(grower.state_of("a" * 2000))
            self.assertEqual(grower.state_of(""), 0)

    def test_equal_to_nothing_of_another_kind(self):
        grower = grown("ab")
        for thing in odd_things() + ["ab", grower.lots(), Library(("ab",))]:
            self.assertIs(grower == thing, False)
            self.assertIs(thing == grower, False)


if __name__ == "__main__":
    unittest.main()
