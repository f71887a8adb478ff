"""9.1, 9.2: patterns, their texts, and where a text cannot go on."""

import random
import re
import unittest
from bisect import bisect_left

from everypiece.errors import BadPattern, NoPattern
from everypiece.patterns import is_pattern, pattern_text, read_pattern
from helper import error_of, nested, odd_things, random_pattern

SIGNS = [chr(number) for number in range(32, 127)]
# One part of a text: a sign, any, a lot or a gap, each perhaps with wrong contents.
TOKEN = re.compile(r"(?P<any>\?)|\[(?P<lot>(?:\\[\]\\]|[^\]\\])+)\]|\{(?P<least>0|[1-9]\d?),(?P<most>0|[1-9]\d?)\}"
                   r"|\\(?P<marked>[?\[{\\])|(?P<sign>[^?\[{\\])")
# What may bring the beginning of a text to an end, whatever it breaks off in.
ENDS = ["", "a", "?", "~]", "]", "]]", "\\]", "0,0}a", ",20}a", "20}a", "}a"] + [f"{figure}}}a" for figure in range(10)]


def plain_read(text):
    """The pattern of a text, by a regular expression; None for none."""
    parts, at = [], 0
    while at < len(text):
        found = TOKEN.match(text, at)
        if not found or not all(sign in SIGNS for sign in found.group()):
            return None
        at = found.end()
        if found["any"]:
            parts.append(("any",))
        elif found["lot"]:
            signs = re.sub(r"\\(.)", r"\1", found["lot"])
            if list(signs) != sorted(set(signs)) or len(signs) > 20:
                return None
            parts.append(("lot", signs))
        elif found["least"]:
            parts.append(("gap", int(found["least"]), int(found["most"])))
            if not parts[-1][1] <= parts[-1][2] <= 20:
                return None
        else:
            parts.append(("sign", found["marked"] or found["sign"]))
    gaps = "".join("g" if part[0] == "gap" else "-" for part in parts)
    return tuple(parts) if 1 <= len(parts) <= 30 and not re.search("^g|g$|gg", gaps) else None


def plain_fault(text):
    """The place of a text at which no pattern's text can go on, None for a pattern's text."""
    if plain_read(text):
        return None
    # Where a text can go on, each beginning of it can: so the place is found by halves.
    return bisect_left(range(len(text)), True, key=lambda place: not any(
        plain_read(text[:place + 1] + end) for end in ENDS))


class KindTest(unittest.TestCase):

    def test_patterns(self):
        lot = "".join(SIGNS[:20])
        for pattern in ((("sign", "a"),), (("any",),), (("lot", "a"),), (("lot", lot),), (("any",),) * 2,
                        (("any",),) * 30, (("sign", " "), ("gap", 0, 0), ("sign", "~")),
                        (("any",), ("gap", 20, 20), ("any",)), (("any",), ("gap", 0, 20), ("lot", "]^")),
                        (("any",), ("gap", 1, 2)) * 14 + (("any",), ("any",))):
            self.assertIs(is_pattern(pattern), True, pattern)
            self.assertEqual(read_pattern(pattern_text(pattern)), pattern)

    def test_no_patterns(self):
        any_part = ("any",)
        for thing in ((), (any_part,) * 31, [any_part], (["any"],), (("gap", 0, 1),), (("gap", 0, 1), any_part),
                      (any_part, ("gap", 0, 1)), (any_part, ("gap", 0, 1), ("gap", 0, 1), any_part),
                      (any_part, ("gap", 2, 1), any_part), (any_part, ("gap", 0, 21), any_part),
                      (any_part, ("gap", 21, 21), any_part), (any_part, ("gap", -1, 0), any_part),
                      (any_part, ("gap", 0, True), any_part), (any_part, ("gap", False, 1), any_part),
                      (any_part, ("gap", "0", "1"), any_part), (any_part, ("gap", 0), any_part),
                      (any_part, ("gap", 0, 1, 2), any_part), (("lot", ""),), (("lot", "".join(SIGNS[:21])),),
                      (("lot", "ba"),), (("lot", "aa"),), (("lot", "a\n"),), (("lot", ("a", "b")),), (("lot",),),
                      (("lot", "a", "b"),), (("sign", ""),), (("sign", "ab"),), (("sign", "\n"),), (("sign",),),
                      (("sign", "a", "b"),), (("any", "a"),), (("Any",),), ((),), ("any",), (None,), "any",
                      (("put", "a"),), ((b"any",),), (any_part, nested(40, tuple))):
            self.assertIs(is_pattern(thing), False, thing)
            self.assertIs(type(error_of(self, pattern_text, thing)), NoPattern)

    def test_spoiled_in_one_part(self):
        chance = random.Random(91)
        for _ in range(40):
            pattern = random_pattern(chance, "ab?[]{}\\,0", chance.choice([1, 2, 5, 30]))
            self.assertTrue(is_pattern(pattern))
            for number, part in enumerate(pattern):
                odd = [[part], list(part), part + (0,), part[:-1], part[0], (part,), None, 0, ("gap",), ("",) + part[1:]]
                odd += [("lot", part[1] + part[1]), ("lot", "ba")] if len(part) == 2 else []
                odd += [("gap", part[1], 21), ("gap", part[2] + 1, part[2]), ("gap", str(part[1]), part[2])] \
                    if part[0] == "gap" else []
                for thing in odd:
                    self.assertIs(is_pattern(pattern[:number] + (thing,) + pattern[number + 1:]), False, thing)

    def test_odd_things(self):
        right = (("sign", "a"), ("gap", 0, 1), ("lot", "ab"))
        for thing in odd_things():
            self.assertIs(is_pattern(thing), False)
            for number, part in enumerate(right):
                self.assertIs(is_pattern(right[:number] + (thing,) + right[number + 1:]), False)
                for index in range(len(part)):
                    spoiled = part[:index] + (thing,) + part[index + 1:]
                    flag = is_pattern(right[:number] + (spoiled,) + right[number + 1:])
                    fine = (number == 0 and index == 1 and thing in ("a", " ", "~")
                            or number == 2 and index == 1 and thing in ("a", " ", "~", "go")
                            or number == 1 and type(thing) is int and (index, thing) in ((1, 0), (1, 1), (2, 0), (2, 1),
                                                                                       (2, 7)))
                    self.assertIs(flag, fine, spoiled)


class TextTest(unittest.TestCase):

    def test_by_hand(self):
        for pattern, text in (
                ((("sign", "?"), ("sign", "["), ("sign", "{"), ("sign", "\\")), "\\?\\[\\{\\\\"),
                ((("sign", "]"), ("sign", "}"), ("sign", ","), ("sign", " ")), "]}, "),
                ((("lot", "[\\]"), ("any",), ("lot", "?{}")), "[[\\\\\\]]?[?{}]"),
                ((("lot", "\\"), ("gap", 0, 20), ("lot", "]")), "[\\\\]{0,20}[\\]]"),
                ((("sign", "0"), ("gap", 10, 10), ("sign", "}")), "0{10,10}}")):
            self.assertEqual(pattern_text(pattern), text)
            self.assertEqual(read_pattern(text), pattern)

    def test_each_is_read_back(self):
        chance = random.Random(92)
        for _ in range(600):
            signs = chance.choice(["?[]{}\\,", "ab", "012?[{", "".join(SIGNS)])
            pattern = random_pattern(chance, signs, chance.choice([1, 2, 3, 8, 29, 30]))
            text = pattern_text(pattern)
            self.assertEqual(read_pattern(text), pattern)
            self.assertEqual(plain_read(text), pattern)
        for sign in SIGNS:
            for part in (("sign", sign), ("lot", sign)):
                self.assertEqual(read_pattern(pattern_text((part,))), (part,))

    def test_what_is_read_has_just_this_text(self):
        chance = random.Random(93)
        read = 0
        for _ in range(6000):
            text = "".join(chance.choice("ab?[]{}\\,012") for _ in range(chance.randint(0, 7)))
            try:
                pattern = read_pattern(text)
            except BadPattern as error:
                self.assertEqual(error.place, plain_fault(text), text)
            else:
                read += 1
                self.assertTrue(is_pattern(pattern))
                self.assertEqual(pattern_text(pattern), text)
        self.assertGreater(read, 500)


class FaultTest(unittest.TestCase):

    def place(self, text):
        """The place that read_pattern tells, None if it reads the text."""
        try:
            pattern = read_pattern(text)
        except BadPattern as error:
            self.assertEqual(list(vars(error)), ["place"])
            return error.place
        self.assertEqual(pattern, plain_read(text))
        return None

    def test_by_hand(self):
        for text, place in (
                ("", 0), ("\n", 0), ("a\n", 1), ("{", 0), ("{0,1}a", 0), ("a{", 2), ("a{}", 2), ("a{,", 2), ("a{0", 3),
                ("a{00", 3), ("a{01", 3), ("a{0}", 3), ("a{0,", 4), ("a{0,}", 4), ("a{0,1", 5), ("a{0,1}", 6),
                ("a{0,1}{", 6), ("a{0,21}", 5), ("a{0,20}", 7), ("a{0,3", 5), ("a{0,30", 5), ("a{3,2}", 5), ("a{3,20}", 7),
                ("a{3,2,", 5), ("a{5,4", 4), ("a{5,1}", 5), ("a{5,1", 5), ("a{5,14}", 7), ("a{9,0", 4), ("a{20,1", 5),
                ("a{20,2", 6), ("a{20,2}", 6), ("a{20,20}b", None), ("a{21", 3), ("a{3,", 4), ("a{33", 3), ("a{ 0", 2),
                ("a{0, 1}", 4), ("[", 1), ("[]", 1), ("[\\", 2), ("[\\a", 2), ("[\\]", 3), ("[\\]]", None),
                ("[\\]\\", 3), ("[\\\\\\", 4), ("[\\\\\\\\", 4), ("[\\\\\\]", 5), ("[^\\", 2), ("[a\\", 2), ("[aa", 2),
                ("[ba]", 2), ("[ab", 3), ("[~", 2), ("[~a", 2), ("[a\n", 2), ("\\", 1), ("\\a", 1), ("\\]", 1),
                ("\\?", None), ("a]", None), ("a}", None), ("a,b", None), ("?" * 30, None), ("?" * 31, 30),
                ("?" * 29 + "{", 29), ("?" * 28 + "{", 29), ("?" * 28 + "{0,1}", 33), ("?" * 28 + "{0,1}a", None),
                ("?" * 28 + "{0,1}ab", 34), ("?" * 29 + "[ab]", None), ("?" * 29 + "[ab]{", 33),
                ("?" * 29 + "\\", 30), ("?" * 30 + "\\", 30), ("[" + "".join(SIGNS[:20]) + "]", None),
                ("[" + "".join(SIGNS[:21]) + "]", 21), ("[" + "".join(SIGNS[:20]) + "\\", 21),
                ("[" + "".join(SIGNS[:19]) + "\\", 21), ("a" * 20000, 30)):
            self.assertEqual(self.place(text), place, text)
            if len(text) < 1000:
                self.assertEqual(plain_fault(text), place, text)

    def test_cut_exchanged_put_in_and_left_out(self):
        chance = random.Random(94)
        for _ in range(25):
            signs = chance.choice(["?[]{}\\,", "ab", "012?[{"])
            text = pattern_text(random_pattern(chance, signs, chance.choice([1, 2, 4, 29, 30])))
            cuts = [text[:place] for place in range(len(text))]
            spoiled = []
            for place in chance.sample(range(len(text) + 1), min(len(text) + 1, 12)):
                sign = chance.choice("?[]{}\\,012ab\n")
                spoiled += [text[:place] + sign + text[place:], text[:place] + sign + text[place + 1:],
                            text[:place] + text[place + 1:]]
            for other in cuts + chance.sample(spoiled, min(len(spoiled), 40)):
                self.assertEqual(self.place(other), plain_fault(other), other)

    def test_no_strings(self):
        for thing in odd_things():
            if not isinstance(thing, str):
                self.assertEqual(self.place(thing), -1)
            elif len(thing) < 1000:
                self.assertEqual(self.place(thing), plain_fault(thing))


if __name__ == "__main__":
    unittest.main()
