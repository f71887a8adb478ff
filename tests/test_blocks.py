"""2.1, 2.2, 2.3: coins, groups, levels, blocks, and what an exchange makes new."""

import random
import unittest
from itertools import accumulate, groupby

from everypiece.blocks import block_lot, blocks, coins, groups, levels, new_blocks
from everypiece.errors import NoLevel, NoNames, NoNumber, NoText
from everypiece.libraries import Library
from helper import error_of, nested, odd_things, random_text

SIGNS = "".join(chr(number) for number in range(32, 127))


def thue_morse(long):
    return "".join("ab"[bin(number).count("1") % 2] for number in range(long))


def texts():
    """Texts of many kinds, some of just 2000 signs."""
    chance = random.Random(21)
    return ["", "a", " ", "~", "ab", "aa", "aaa", "aab", "abb", "abab", "abcabc", "aabbaabb", SIGNS, SIGNS[::-1],
            SIGNS * 21 + SIGNS[:5], "a" * 2000, "ab" * 1000, "aab" * 666 + "aa", thue_morse(2000), "a" * 1999 + "b",
            "b" + "a" * 1999, "a" * 1000 + "b" + "a" * 999, "abc" * 600 + "cba" * 60,
            ] + [random_text(chance, 2000) for _ in range(60)]


def name_rows():
    """Tuples of names of one sign and of many, like neighbours and unlike ones."""
    chance = random.Random(22)
    found = [("a",), (" ",), ("~" * 2000,), ("a", "b"), ("a", "a"), ("a", "a", "a"), ("a", "b", "b", "a"),
             ("ab", "b", "ab", "b"), ("a", "aa", "aaa", "aaaa"), ("ba", "ca", "da"), ("a" * 5000, "a" * 4999 + "b"),
             tuple(SIGNS), ("a", "b") * 500, ("a",) * 500, ("a" * 20000, "b" * 20000, "a" * 20000)]
    for _ in range(150):
        lot = [random_text(chance, 9) or "x" for _ in range(chance.choice([2, 3, 8]))]
        found.append(tuple(chance.choice(lot) for _ in range(chance.randint(1, 60))))
    return found


def without_like_neighbours(names):
    return tuple(name for name, _ in groupby(names))


def plain_coins(names):
    """The coins, over strings of bits that begin with the lowest one."""
    row = ["".join(format(ord(sign), "07b") for sign in name)[::-1] for name in names]
    for _ in range(5):
        made = [int(row[0][0])]
        for ahead, bits in zip(row, row[1:]):
            long = max(len(ahead), len(bits))
            pairs = list(zip(ahead.ljust(long, "0"), bits.ljust(long, "0")))
            place = next(place for place, pair in enumerate(pairs) if pair[0] != pair[1])
            made.append(2 * place + int(pairs[place][1]))
        row = [format(coin, "b")[::-1] for coin in made]
    return [int(bits[::-1], 2) for bits in row]


def plain_groups(names):
    """The numbers of the names that begin a group: stretches first, then what is between them."""
    parts = []
    for name, same in groupby(names):
        same = list(same)
        if len(same) == 1 and parts and parts[-1][0] == "row":
            parts[-1][1].append(name)
        else:
            parts.append(("row" if len(same) == 1 else "stretch", same))
    found, at = [], 0
    for kind, part in parts:
        found.append(at)
        if kind == "row":
            row = plain_coins(part)
            found += [at + number for number in range(1, len(row) - 1)
                      if row[number] > row[number - 1] and row[number] > row[number + 1]]
        at += len(part)
    return found


def plain_levels(text):
    """The names of all levels, one list each."""
    names = list(text)
    found = [names]
    while len(names) > 1:
        begins = plain_groups(names) + [len(names)]
        names = ["".join(names[begin:behind]) for begin, behind in zip(begins, begins[1:])]
        found.append(names)
    return found


def bounds_of(names):
    """Where each name begins, and where the last one ends."""
    return list(accumulate(map(len, names), initial=0))


def begins_of(names):
    return tuple(bounds_of(names)[:-1])


class CoinsTest(unittest.TestCase):

    def test_by_hand(self):
        for names, right in ((("a",), (1,)), (("b",), (0,)), (("a", "b"), (1, 0)), (("b", "a"), (0, 1)),
                             (("a", "c"), (1, 3)), (("a", "b", "c"), (1, 0, 1)), (("a", "e", "a", "e"), (1, 5, 0, 1)),
                             (("ab",), (0,)), (("ba",), (1,)), (("ab", "b"), (0, 1))):
            self.assertEqual(coins(names), right)

    def test_against_bits(self):
        for names in name_rows():
            row = without_like_neighbours(names)
            self.assertEqual(coins(row), tuple(plain_coins(row)))
            self.assertIs(type(coins(row)), tuple)

    def test_each_pair_of_signs(self):
        for one in SIGNS:
            for other in SIGNS:
                if one != other:
                    self.assertEqual(coins((one, other)), tuple(plain_coins((one, other))))

    def test_fact_of_coins(self):
        for names in name_rows() + [tuple(text) for text in texts() if text]:
            row = coins(without_like_neighbours(names))
            self.assertTrue(all(0 <= coin < 6 for coin in row))
            self.assertTrue(all(one != other for one, other in zip(row, row[1:])))

    def test_each_coin_comes(self):
        found = [coin for names in name_rows() for coin in coins(without_like_neighbours(names))]
        self.assertEqual(sorted(set(found)), [0, 1, 2, 3, 4, 5])

    def test_like_neighbours(self):
        for names in (("a", "a"), ("a", "b", "b"), ("ab", "c", "ab", "ab"), ("a",) * 90, ("a", "b") * 40 + ("b",)):
            self.assertIs(type(error_of(self, coins, names)), NoNames)
            self.assertEqual(groups(names)[0], 0)


class GroupsTest(unittest.TestCase):

    def test_by_hand(self):
        for names, right in ((("a",), (0,)), (("a", "a"), (0,)), (("a", "b"), (0,)), (("a", "b", "a"), (0,)),
                             (("b", "a", "b"), (0, 1)), (("a", "c", "a"), (0, 1)), (("a", "a", "b"), (0, 2)),
                             (("a", "b", "b"), (0, 1)), (("a", "b", "b", "a"), (0, 1, 3)),
                             (("a", "a", "b", "b"), (0, 2)), (("a", "e", "a", "e"), (0, 1)),
                             (("b", "b", "a", "b", "a"), (0, 2)), (("a", "a", "b", "a", "b", "b"), (0, 2, 4))):
            self.assertEqual(groups(names), right, names)

    def test_against_plain_groups(self):
        for names in name_rows():
            self.assertEqual(groups(names), tuple(plain_groups(names)), names)
            row = without_like_neighbours(names)
            self.assertEqual(groups(row), tuple(plain_groups(row)))

    def test_of_two_groups_side_by_side_one_has_two_names(self):
        for names in name_rows() + [tuple(text) for text in texts() if text]:
            begins = groups(names)
            ends = list(begins[1:]) + [len(names)]
            many = [end - begin for begin, end in zip(begins, ends)]
            self.assertTrue(all(one > 1 or other > 1 for one, other in zip(many, many[1:])))

    def test_what_it_hangs_on(self):
        """Ten names around it, where there are so many, tell whether a name begins a group."""
        chance = random.Random(23)
        seen = {}
        for _ in range(3000):
            lot = chance.choice(["ab", "ac", "abe", "aeq"])
            names = tuple(chance.choice(lot) for _ in range(chance.randint(1, 40)))
            begins = groups(names)
            padded = (None,) * 7 + names + (None,) * 2
            for number in range(len(names)):
                window = padded[number:number + 10]
                self.assertIs(seen.setdefault(window, number in begins), number in begins)
        self.assertGreater(len(seen), 1000)

    def test_what_it_hangs_on_with_many_signs(self):
        chance = random.Random(24)
        for _ in range(2000):
            window = [chance.choice(SIGNS) for _ in range(10)]
            found = []
            for _ in range(3):
                ahead, behind = ([chance.choice(SIGNS) for _ in range(chance.randint(1, 9))] for _ in range(2))
                found.append(len(ahead) + 7 in groups(tuple(ahead + window + behind)))
            self.assertEqual(len(set(found)), 1)


class NoNamesTest(unittest.TestCase):

    def test_no_names(self):
        wrong = odd_things() + ["ab", ["a", "b"], ("",), ("a", ""), ("", "a"), ("a", None), ("a", 1), ("a", b"b"),
                                ("a", "\n"), ("a\n",), ("a", "\x7f"), ("a", ["b"]), ("a", ("b",)), {"a": "b"},
                                ("a", True), (("a", "b"),), (Library(("a",)),), ("a", "b", nested(38, tuple))]
        for thing in wrong:
            if thing not in (("a",), ("0", "0")):
                for function in (coins, groups):
                    self.assertIs(type(error_of(self, function, thing)), NoNames)


class LevelsTest(unittest.TestCase):

    def test_by_hand(self):
        self.assertEqual(levels(""), [()])
        self.assertEqual(levels("a"), [(0,)])
        self.assertEqual(levels("aa"), [(0, 1), (0,)])
        self.assertEqual(levels("ab"), [(0, 1), (0,)])
        self.assertEqual(levels("bab"), [(0, 1, 2), (0, 1), (0,)])
        self.assertEqual(levels("aabb"), [(0, 1, 2, 3), (0, 2), (0,)])
        self.assertEqual(levels("a" * 2000), [tuple(range(2000)), (0,)])
        self.assertEqual(levels("ab" * 1000)[1:], [tuple(range(0, 2000, 2)), (0,)])

    def test_against_plain_levels(self):
        for text in texts():
            right = plain_levels(text)
            self.assertEqual(levels(text), [begins_of(names) for names in right])
            self.assertEqual([blocks(text, level) for level in range(len(right))], list(map(tuple, right)))
            self.assertEqual(block_lot(text), sorted({name for names in right for name in names}))

    def test_kinds(self):
        for text in ("", "a", "abab", "aab"):
            self.assertIs(type(levels(text)), list)
            self.assertTrue(all(type(lot) is tuple for lot in levels(text)))
            self.assertIs(type(blocks(text, 0)), tuple)
            self.assertIs(type(block_lot(text)), list)

    def test_fact_of_levels(self):
        for text in texts():
            found = levels(text)
            self.assertEqual(found[0], tuple(range(len(text))))
            self.assertLessEqual(len(found[-1]), 1)
            self.assertTrue(all(len(begins) > 1 for begins in found[:-1]))
            for begins, later in zip(found, found[1:]):
                self.assertLessEqual(set(later), set(begins))
                self.assertEqual(later[0], 0)
                self.assertLessEqual(3 * len(later), 2 * len(begins) + 3)
                self.assertLess(len(later), len(begins))

    def test_blocks_are_the_text_again(self):
        for text in texts():
            lot = []
            for level, begins in enumerate(levels(text)):
                names = blocks(text, level)
                self.assertEqual("".join(names), text)
                self.assertEqual(begins_of(names), begins)
                lot += names
            self.assertEqual(block_lot(text), sorted(set(lot)))

    def test_block_lot(self):
        self.assertEqual(block_lot(""), [])
        self.assertEqual(block_lot("a"), ["a"])
        self.assertEqual(block_lot("abab"), ["a", "ab", "abab", "b"])
        self.assertEqual(block_lot("a" * 2000), ["a", "a" * 2000])

    def test_like_texts_have_like_blocks(self):
        for text in texts():
            again = "".join(list(text))
            self.assertEqual(levels(again), levels(text))
            self.assertEqual(block_lot(again), block_lot(text))

    def test_no_text(self):
        right = [thing for thing in odd_things() if isinstance(thing, str) and len(thing) <= 2000 and "\n" not in thing]
        for thing in odd_things() + ["a" * 2001, "\n", "a\nb", "\x7f", "\xe4", b"ab", ("a", "b"), ["a"]]:
            if thing not in right:
                self.assertIs(type(error_of(self, levels, thing)), NoText)
                self.assertIs(type(error_of(self, block_lot, thing)), NoText)
                for level in (0, 1, -1, None, "a"):
                    self.assertIs(type(error_of(self, blocks, thing, level)), NoText)
        for thing in right:
            levels(thing)
            block_lot(thing)

    def test_no_level(self):
        for text in ("", "a", "ab", "abab", "a" * 2000):
            many = len(levels(text))
            for thing in odd_things() + [many, many + 1, -1, -many, True, False, "0", (0,), [0], 10 ** 19]:
                if type(thing) is not int or not 0 <= thing < many:
                    self.assertIs(type(error_of(self, blocks, text, thing)), NoLevel)


def spans(text):
    """For each level the list of the pairs (from, behind) of its blocks."""
    found = []
    for names in plain_levels(text):
        bounds = bounds_of(names)
        found.append(list(zip(bounds, bounds[1:])))
    return found


def plain_new_blocks(text, at, many, signs):
    later = text[:at] + signs + text[at + many:]
    elder, counts = spans(text), []
    for level, row in enumerate(spans(later)):
        here = set(elder[level] if level < len(elder) else [])
        turned = {(len(text) - one, len(text) - other) for one, other in here}
        count = 0
        for begin, behind in row:
            if behind <= at and (begin, behind) in here:
                continue
            from_end = (len(later) - begin, len(later) - behind)
            if begin >= at + len(signs) and from_end in turned:
                continue
            count += 1
        counts.append(count)
    return counts


class NewBlocksTest(unittest.TestCase):

    def test_by_hand(self):
        for args, right in ((("", 0, 0, ""), [0]), (("", 0, 0, "abab"), [4, 2, 1]), (("abab", 0, 4, ""), [0]),
                            (("abab", 0, 0, ""), [0, 0, 0]), (("abab", 4, 0, ""), [0, 0, 0]),
                            (("abab", 2, 0, ""), [0, 0, 1]), (("abab", 1, 0, ""), [0, 1, 1]),
                            (("abab", 1, 1, "b"), [1, 1, 1]), (("abab", 3, 1, "b"), [1, 1, 1]),
                            (("abab", 0, 4, "abab"), [4, 2, 1]), (("abab", 4, 0, "ab"), [2, 1, 1]),
                            (("abab", 0, 2, ""), [0, 0]), (("aaaa", 2, 0, "b"), [1, 3, 1]), (("a", 0, 1, "b"), [1])):
            self.assertEqual(new_blocks(*args), right, args)

    def exchanges(self):
        chance = random.Random(25)
        small = ["", "x", "a", "b", "ab", "ba", "aa", "abab"]
        for text in texts():
            for _ in range(4):
                at = chance.choice([0, len(text), chance.randint(0, len(text))])
                rest = len(text) - at
                many = chance.choice([0, min(1, rest), rest, chance.randint(0, rest)])
                room = 2000 - len(text) + many
                signs = chance.choice(small + [text[at:at + many], random_text(chance, 2000)])[:room]
                yield text, at, many, signs
            yield text, 0, len(text), "z" * 2000
            yield text, 0, 0, "ab" * ((2000 - len(text)) // 2)
            yield text, 0, 0, ""
            yield text, len(text), 0, ""
            yield text, len(text) // 2, 0, ""

    def test_against_plain_search(self):
        for number, (text, at, many, signs) in enumerate(self.exchanges()):
            if number % 5 == 0 or len(text) < 300 and len(signs) < 300:
                self.assertEqual(new_blocks(text, at, many, signs), plain_new_blocks(text, at, many, signs))

    def test_all_exchanges_of_small_texts(self):
        for text in ("", "a", "ab", "aab", "abab", "aabbc", "abcabca"):
            for at in range(len(text) + 1):
                for many in range(len(text) - at + 1):
                    for signs in ("", "a", "b", "ca", text):
                        found = new_blocks(text, at, many, signs)
                        self.assertEqual(found, plain_new_blocks(text, at, many, signs), (text, at, many, signs))

    def test_fact_of_blocks(self):
        for text, at, many, signs in self.exchanges():
            found = new_blocks(text, at, many, signs)
            self.assertIs(type(found), list)
            self.assertEqual(len(found), len(levels(text[:at] + signs + text[at + many:])))
            self.assertTrue(all(0 <= count <= max(26, len(signs)) for count in found), (text, at, many, signs))
            self.assertEqual(found[0], len(signs))

    def test_fact_of_blocks_in_full_texts(self):
        chance = random.Random(26)
        for _ in range(60):
            lot = SIGNS[:chance.choice([2, 3, 5, 95])]
            text = "".join(chance.choice(lot) for _ in range(1990))
            at = chance.randint(0, 1980)
            found = new_blocks(text, at, chance.randint(0, 10), "".join(chance.choice(lot) for _ in range(9)))
            self.assertLessEqual(max(found), 26)

    def test_just_2000_signs_and_more(self):
        full = "ab" * 1000
        self.assertEqual(len(new_blocks(full, 0, 0, "")), 3)
        self.assertEqual(new_blocks(full, 1999, 1, "b")[0], 1)
        self.assertEqual(new_blocks("", 0, 0, full), [2000, 1000, 1])
        self.assertEqual(new_blocks(full, 0, 2000, "a" * 2000), [2000, 1])
        for args in ((full, 0, 0, "x"), (full, 5, 1, "xy"), (full, 2000, 0, "a"), ("", 0, 0, "a" * 2001),
                     ("a", 0, 1, "a" * 2001), ("ab", 1, 0, "a" * 1999), (full, 0, 2000, "a" * 20000)):
            self.assertIs(type(error_of(self, new_blocks, *args)), NoText)
        self.assertEqual(new_blocks("ab", 1, 0, "a" * 1998)[0], 1998)

    def test_wrong_ones_in_order(self):
        def kind(*args):
            return type(error_of(self, new_blocks, *args))
        for thing in odd_things():
            if not isinstance(thing, str) or len(thing) > 2000 or "\n" in thing:
                self.assertIs(kind(thing, -1, -1, None), NoText)
                self.assertIs(kind(thing, 0, 0, "a"), NoText)
                self.assertIs(kind("ab", 0, 0, thing), NoText)
            if type(thing) is not int or not 0 <= thing <= 2:
                self.assertIs(kind("ab", thing, 0, "a"), NoNumber)
                self.assertIs(kind("ab", thing, None, None), NoNumber)
                self.assertIs(kind("ab", 0, thing, "a"), NoNumber)
                self.assertIs(kind("ab", 0, thing, None), NoNumber)
        for at, many in ((3, 0), (0, 3), (1, 2), (2, 1), (-1, 0), (0, -1), (True, 0), (0, True), (10 ** 19, 0),
                         (0, 10 ** 19), ((0,), 0), (0, [0]), ("0", 0)):
            for signs in ("a", None, "\n", "a" * 2001):
                self.assertIs(kind("ab", at, many, signs), NoNumber)
        self.assertIs(kind("a" * 2001, 0, 2001, ""), NoText)


if __name__ == "__main__":
    unittest.main()
