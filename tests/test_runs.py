"""8.2: periods, borders and runs of a text."""

import random
import unittest
from itertools import product

from everypiece.errors import NoText
from everypiece.runs import borders, is_run, periods, runs
from helper import error_of, nested, odd_things, random_text

NO_TEXTS = ("\n", "a\n", "a\tb", "\x7f", "a" * 2001, None, True, 0, -1, b"a", ["a"], ("a",), (), [], {"a": 1},
            nested(40, list), nested(40, tuple))


def small_texts():
    chance = random.Random(131)
    return (["".join(signs) for many in range(9) for signs in product("ab", repeat=many)]
            + [random_text(chance, 30) for _ in range(120)]
            + ["abaababaabaab", "abcabcab", "aabaabaaab", "a" * 25, "ab" * 12 + "a", " ~ ~ ~", "aabb" * 5])


def large_texts():
    chance = random.Random(132)
    return ["a" * 2000, "ab" * 1000, "abaab" * 400, "a" * 1000 + "b" + "a" * 999,
            "".join(chance.choice("ab") for _ in range(2000)), random_text(chance, 2000)]


def has_period(text, number):
    return all(text[at] == text[at + number] for at in range(len(text) - number))


def least_period(text):
    return next(number for number in range(1, len(text) + 1) if has_period(text, number))


def plain_runs(text):
    """All runs, by looking at all stretches."""
    found = []
    for low in range(len(text)):
        for high in range(low + 2, len(text) + 1):
            least = least_period(text[low:high])
            if (2 * least <= high - low and (low == 0 or not has_period(text[low - 1:high], least))
                    and (high == len(text) or not has_period(text[low:high + 1], least))):
                found.append((low, high, least))
    return found


class PeriodsTest(unittest.TestCase):

    def test_by_hand(self):
        for text, right, words in (
                ("", (), []), ("a", (1,), []), ("aa", (1, 2), ["a"]), ("ab", (2,), []), ("aba", (2, 3), ["a"]),
                ("abab", (2, 4), ["ab"]), ("aaa", (1, 2, 3), ["a", "aa"]), ("abcab", (3, 5), ["ab"]),
                ("abaab", (3, 5), ["ab"]), ("aabaa", (3, 4, 5), ["a", "aa"])):
            self.assertEqual(periods(text), right)
            self.assertEqual(borders(text), words)

    def test_plain_search(self):
        for text in small_texts():
            self.assertEqual(periods(text), tuple(number for number in range(1, len(text) + 1) if has_period(text, number)))
            self.assertEqual(borders(text), sorted(text[:many] for many in range(1, len(text))
                                                   if text.endswith(text[:many])))
            self.assertIs(type(periods(text)), tuple)
            self.assertIs(type(borders(text)), list)

    def test_large_texts(self):
        self.assertEqual(periods("a" * 2000), tuple(range(1, 2001)))
        self.assertEqual(borders("a" * 2000), ["a" * many for many in range(1, 2000)])
        self.assertEqual(periods("ab" * 1000), tuple(range(2, 2001, 2)))
        for text in large_texts():
            self.assertEqual(borders(text), [text[:many] for many in range(1, len(text)) if text.endswith(text[:many])])
            self.assertEqual(list(periods(text)), sorted(len(text) - len(word) for word in [""] + borders(text)))

    def test_no_text(self):
        for thing in odd_things() + list(NO_TEXTS):
            if not (isinstance(thing, str) and len(thing) < 2001 and all(" " <= sign <= "~" for sign in thing)):
                for function in (periods, borders, runs):
                    self.assertIs(type(error_of(self, function, thing)), NoText)
                for other in (None, (0, 2, 1), thing):
                    self.assertIs(type(error_of(self, is_run, thing, other)), NoText)


class RunsTest(unittest.TestCase):

    def test_by_hand(self):
        for text, right in (
                ("", []), ("a", []), ("ab", []), ("aa", [(0, 2, 1)]), ("aba", []), ("abab", [(0, 4, 2)]),
                ("aabb", [(0, 2, 1), (2, 4, 1)]), ("aaaa", [(0, 4, 1)]), ("abaabaa", [(0, 7, 3), (2, 4, 1), (5, 7, 1)]),
                ("ababa", [(0, 5, 2)]), ("xababy", [(1, 5, 2)]), ("aabaab", [(0, 2, 1), (0, 6, 3), (3, 5, 1)])):
            self.assertEqual(runs(text), right)

    def test_all_stretches(self):
        for text in small_texts():
            right = plain_runs(text)
            self.assertEqual(runs(text), right, text)
            self.assertIs(type(runs(text)), list)
            for run in right:
                self.assertIs(is_run(text, run), True)

    def test_is_run_of_all_triples(self):
        for text in small_texts()[::5] + ["aabaabaaab", "abaababaabaab"]:
            if len(text) < 14:
                right = plain_runs(text)
                for thing in product(range(len(text) + 2), range(len(text) + 2), range(len(text) + 2)):
                    self.assertIs(is_run(text, thing), thing in right)

    def test_fact_of_runs(self):
        for text in small_texts():
            found = runs(text)
            for low in range(len(text)):
                for high in range(low + 2, len(text) + 1):
                    least = least_period(text[low:high])
                    if 2 * least <= high - low:
                        self.assertEqual(len([run for run in found if run[2] == least and run[0] <= low
                                              and high <= run[1]]), 1)

    def test_large_texts(self):
        self.assertEqual(runs("a" * 2000), [(0, 2000, 1)])
        self.assertEqual(runs("ab" * 1000), [(0, 2000, 2)])
        self.assertEqual(runs("a" * 1000 + "b" + "a" * 999), [(0, 1000, 1), (1001, 2000, 1)])
        for text in large_texts():
            found = runs(text)
            self.assertEqual(found, sorted(set(found)))
            for run in found[::max(1, len(found) // 60)]:
                low, high, number = run
                self.assertEqual(least_period(text[low:high]), number)
                self.assertIs(is_run(text, run), True)
                self.assertIs(is_run(text, (low, high - 1, number)), False)
                self.assertIs(is_run(text, (low + 1, high, number)), False)
                self.assertIs(is_run(text, (low, high, 2 * number)), False)

    def test_no_runs(self):
        for thing in odd_things() + [[0, 2, 1], (0, 2), (0, 2, 1, 0), (False, 2, 1), (0, 2, True), (0, 2, 0), (0, 2, -1),
                                     (-1, 2, 1), (0, 3, 1), (1, 0, 1), (0, 10 ** 19, 1), (0, 2, 10 ** 19), ("0", 2, 1),
                                     (0, 2, None), ((0, 2, 1),), {0: 2}, nested(40, tuple), (nested(39, list), 2, 1)]:
            for text in ("aa", "", "a", "abab"):
                self.assertIs(is_run(text, thing), False)
            for part in range(3):
                if thing != (0, 2, 1)[part] or type(thing) is not int:
                    self.assertIs(is_run("aa", (0, 2, 1)[:part] + (thing,) + (0, 2, 1)[part + 1:]), False)
        self.assertIs(is_run("aa", (0, 2, 1)), True)


if __name__ == "__main__":
    unittest.main()
