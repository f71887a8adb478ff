"""8.3: phrasings of a text."""

import random
import unittest
from itertools import product

from everypiece.errors import NoPhrases, NoText
from everypiece.runs import fewest_phrases, is_phrasing, phrasing, told_by
from helper import error_of, nested, odd_things, random_text
from test_runs import NO_TEXTS, large_texts, small_texts


def plain_told(phrases):
    """The text of right phrases, sign by sign."""
    text = ""
    for phrase in phrases:
        if isinstance(phrase, str):
            text += phrase
        else:
            for number in range(phrase[1]):
                text += text[phrase[0] + number]
    return text


def phrases_at(text, at):
    """All phrases with which a phrasing of a text can go on from a place."""
    found = [text[at]]
    for begin in range(at):
        for many in range(1, len(text) - at + 1):
            if text[begin + many - 1] != text[at + many - 1]:
                break
            found.append((begin, many))
    return found


def fewest_from(text):
    """The fewest phrases, by trying all from each place on."""
    fewest = {len(text): 0}
    for at in range(len(text) - 1, -1, -1):
        fewest[at] = 1 + min(fewest[at + (1 if isinstance(phrase, str) else phrase[1])] for phrase in phrases_at(text, at))
    return fewest[0]


def all_phrasings(text, at=0):
    if at == len(text):
        return [()]
    return [(phrase,) + rest for phrase in phrases_at(text, at)
            for rest in all_phrasings(text, at + (1 if isinstance(phrase, str) else phrase[1]))]


class ToldTest(unittest.TestCase):

    def test_by_hand(self):
        for phrases, right in (
                ((), ""), (("a",), "a"), (("a", "b"), "ab"), (("a", (0, 1)), "aa"), (("a", (0, 3)), "aaaa"),
                (("a", "b", (0, 2)), "abab"), (("a", "b", (0, 5)), "abababa"), (("a", "b", (1, 3)), "abbbb"),
                (("a", "b", "c", (1, 4), (0, 2)), "abcbcbcab"), ((" ", "~", (0, 2)), " ~ ~")):
            self.assertEqual(told_by(phrases), right)
            self.assertIs(is_phrasing(right, phrases), True)
            self.assertIs(is_phrasing(right + "a", phrases), False)

    def test_drawn_phrases(self):
        chance = random.Random(141)
        for _ in range(300):
            phrases, text = (), ""
            for _ in range(chance.randint(0, 9)):
                new = (chance.randrange(len(text)), chance.randint(1, 2 * len(text))) if text and chance.random() < 0.6 \
                    else chance.choice("ab~ ")
                if len(plain_told(phrases + (new,))) <= 2000:
                    phrases, text = phrases + (new,), plain_told(phrases + (new,))
            self.assertEqual(told_by(phrases), text)
            self.assertIs(is_phrasing(text, phrases), True)
            self.assertLessEqual(fewest_phrases(text), len(phrases))
            self.assert_wrong(chance, phrases, text)

    def assert_wrong(self, chance, phrases, text):
        """Right phrases, of which one is exchanged for each kind of wrong one."""
        for index in range(len(phrases)):
            begins = len(plain_told(phrases[:index]))
            for wrong in ((begins, 1), (begins + 5, 1), (0, 0), (0, -1), (-1, 1), (0, 2001 - begins), (0, 10 ** 19), "", "ab",
                          (0,), (0, 1, 1), [0, 1], ["a"], None, True, 0, "\n", b"a", (True, 1), (0, True), ("0", 1), (0, "1")):
                error = error_of(self, told_by, phrases[:index] + (wrong,) + phrases[index + 1:])
                self.assertIs(type(error), NoPhrases)
                self.assertEqual(error.index, index, wrong)
                self.assertIs(is_phrasing(text, phrases[:index] + (wrong,) + phrases[index + 1:]), False)

    def test_bounds_of_length(self):
        self.assertEqual(told_by(("a", (0, 1999))), "a" * 2000)
        self.assertEqual(told_by(("a",) * 2000), "a" * 2000)
        self.assertEqual(told_by(("a", "b", (0, 1997), "c")), ("ab" * 1000)[:1999] + "c")
        for phrases, index in ((("a", (0, 2000)), 1), (("a", (0, 1999), "b"), 2), (("a", (0, 1999), (0, 1)), 2),
                               (("a",) * 2001, 2000), (("a",) * 20000, 2000), (("a", (0, 10 ** 19)), 1),
                               (("a", (0, 1000), (0, 1000), None), 2), (("a", None, (0, 2000)), 1)):
            error = error_of(self, told_by, phrases)
            self.assertIs(type(error), NoPhrases)
            self.assertEqual(error.index, index)
            self.assertIs(is_phrasing("a" * 2000, phrases), False)

    def test_where_a_phrase_begins(self):
        for phrases, index in ((((0, 1),), 0), (("a", (1, 1)), 1), (("a", "b", (2, 1)), 2), (("a", (0, 2), (3, 1)), 2)):
            self.assertEqual(error_of(self, told_by, phrases).index, index)
        self.assertEqual(told_by(("a", "b", (1, 1), (2, 3))), "abbbbb")

    def test_no_tuple_and_no_phrase(self):
        for thing in odd_things() + [["a"], "a", {}, None, [("a",)]]:
            if not isinstance(thing, tuple):
                error = error_of(self, told_by, thing)
                self.assertIs(type(error), NoPhrases)
                self.assertEqual(error.index, -1)
            self.assertIs(is_phrasing("a", thing), thing == ("a",))
            self.assertIs(is_phrasing("", thing), thing == ())
            if not (isinstance(thing, str) and len(thing) == 1 and " " <= thing <= "~"):
                self.assertEqual(error_of(self, told_by, (thing,)).index, 0)
                self.assertEqual(error_of(self, told_by, ("a", "b", thing, None)).index, 2)
            if type(thing) is not int or thing < 0:
                for phrase in ((thing, 1), (0, thing)):
                    self.assertEqual(error_of(self, told_by, ("a", phrase, None)).index, 1)
        self.assertEqual(error_of(self, told_by, nested(40, tuple)).index, 0)


class PhrasingTest(unittest.TestCase):

    def check(self, text, fewest):
        found = phrasing(text)
        self.assertIs(type(found), tuple)
        self.assertEqual(told_by(found), text)
        self.assertEqual(plain_told(found), text)
        self.assertIs(is_phrasing(text, found), True)
        self.assertEqual(len(found), fewest)
        self.assertEqual(fewest_phrases(text), fewest)

    def test_by_hand(self):
        for text, fewest in (("", 0), ("a", 1), ("aa", 2), ("a" * 2000, 2), ("ab", 2), ("abab", 3), ("ab" * 1000, 3),
                             ("abc", 3), ("abcabcabcx", 5), ("aabaab", 4), ("abbabb", 4)):
            self.check(text, fewest)

    def test_against_all_phrasings(self):
        for text in small_texts():
            self.check(text, fewest_from(text))
        for text in [other for other in small_texts() if len(other) < 6]:
            found = all_phrasings(text)
            self.check(text, min(map(len, found)))
            for phrases in found:
                self.assertIs(is_phrasing(text, phrases), True)
                self.assertEqual(told_by(phrases), text)

    def test_is_phrasing_of_all_tuples(self):
        parts = ["a", "b", "c", ""] + list(product(range(-1, 4), range(-1, 4)))
        for text in ("", "a", "ab", "aa", "aab", "aba"):
            right = all_phrasings(text)
            for many in range(4):
                for thing in product(parts, repeat=many):
                    self.assertIs(is_phrasing(text, thing), thing in right)
            self.assertIs(is_phrasing(text, list(right[0])), False)

    def test_large_texts(self):
        chance = random.Random(142)
        for text in large_texts() + [random_text(chance, 2000) for _ in range(5)]:
            self.check(text, self.fewest_by_longest(text))
        for text in [random_text(chance, 60) for _ in range(20)]:
            self.check(text, fewest_from(text))

    def fewest_by_longest(self, text):
        """As many as are needed by always taking the longest phrase, looked for by halves."""
        at, many = 0, 0
        while at < len(text):
            low, high = 0, len(text) - at
            while low < high:
                middle = (low + high + 1) // 2
                if text[at:at + middle] in text[:at + middle - 1]:
                    low = middle
                else:
                    high = middle - 1
            at, many = at + max(low, 1), many + 1
        return many

    def test_no_text(self):
        for thing in odd_things() + list(NO_TEXTS):
            if not (isinstance(thing, str) and len(thing) < 2001 and all(" " <= sign <= "~" for sign in thing)):
                for function in (phrasing, fewest_phrases):
                    self.assertIs(type(error_of(self, function, thing)), NoText)
                for other in (None, ("a",), thing):
                    self.assertIs(type(error_of(self, is_phrasing, thing, other)), NoText)


if __name__ == "__main__":
    unittest.main()
