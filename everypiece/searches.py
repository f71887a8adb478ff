"""Searches by the order of endings, and for words with wrong signs (9.4 to 9.6)."""

from everypiece.asks import span
from everypiece.endings import endings
from everypiece.errors import NoGaps, NoHoles, NoNumber, NoPattern, NoWord
from everypiece.kinds import is_number, is_word
from everypiece.patterns import MOST_PARTS, is_pattern, may_be

MOST_WRONG = 3


def _ranges_within(signs, low, high, part):
    """The ranges, within one, of endings that have one and the same sign there, one that may be dealt to a part."""
    found = []
    for number in range(low, high):
        sign = signs[number]
        if sign == "" or not may_be(part, sign):
            continue
        if found and signs[number - 1] == sign:
            found[-1] = (found[-1][0], number + 1)
        else:
            found.append((number, number + 1))
    return found


def searched(library, pattern):
    """The ranges of endings that begin with pieces which fit, and how many ranges were looked at."""
    if not is_pattern(pattern):
        raise NoPattern()
    if any([part[0] == "gap" for part in pattern]):
        raise NoGaps()
    order = endings(library)
    ranges = [(0, len(order))]
    many = 1
    for depth, part in enumerate(pattern):
        signs = [library.texts[text][at + depth:at + depth + 1] for text, at in order]
        ranges = [within for low, high in ranges for within in _ranges_within(signs, low, high, part)]
        many += len(ranges)
    return (ranges, many)


def _with_room(library, word):
    """The ascending list of the places from which on a text has as many signs as a word."""
    return [(number, at) for number, text in enumerate(library.texts) for at in range(len(text) - len(word) + 1)]


def _wrong_at(library, word, place):
    """The tuple of the indexes of a word at which other signs stand from a place on."""
    text, at = place
    signs = library.texts[text][at:at + len(word)]
    return tuple([index for index, (one, other) in enumerate(zip(word, signs)) if one != other])


def _near(library, word, most, found):
    """Of the places found, those with at most so many wrong signs, with the indexes of these."""
    rows = [(text, at, _wrong_at(library, word, (text, at))) for text, at in found]
    return tuple([(text, at, wrong) for text, at, wrong in rows if len(wrong) <= most])


def _is_most(thing):
    """Whether a thing is a number of wrong signs that may be asked for."""
    return is_number(thing) and thing <= MOST_WRONG


def near(library, word, most):
    """The ascending tuple of the triples (text, at, wrong) with at most so many wrong signs."""
    if not is_word(word):
        raise NoWord()
    if not _is_most(most):
        raise NoNumber()
    return _near(library, word, most, _with_room(library, word))


def nearest(library, word):
    """The triple (many, text, at) of the least number of wrong signs and the least place with it, None without."""
    if not is_word(word):
        raise NoWord()
    room = _with_room(library, word)
    return min([(len(_wrong_at(library, word, (text, at))), text, at) for text, at in room], default=None)


def _are_indexes(thing, many):
    """Whether a thing is an ascending tuple of numbers below this one."""
    if not isinstance(thing, tuple) or not all([is_number(index) and index < many for index in thing]):
        return False
    return all([one < other for one, other in zip(thing, thing[1:])])


def with_holes(word, wrong):
    """The pattern of a word with any sign at these indexes."""
    if not is_word(word) or len(word) > MOST_PARTS:
        raise NoWord()
    if not _are_indexes(wrong, len(word)):
        raise NoHoles()
    return tuple([("any",) if index in wrong else ("sign", sign) for index, sign in enumerate(word)])


def stretches(word, many):
    """The tuple of the pairs (at, signs) into which a word is cut, as alike in length as can be."""
    if not is_word(word):
        raise NoWord()
    if not is_number(many) or many < 1 or many > MOST_WRONG + 1 or many > len(word):
        raise NoNumber()
    long, longer = divmod(len(word), many)
    begins = [number * long + min(number, longer) for number in range(many + 1)]
    return tuple([(begin, word[begin:behind]) for begin, behind in zip(begins, begins[1:])])


def _with_stretch(library, word, many):
    """The places, with room for a word, from which on one of so many of its stretches stands as in the word."""
    order = endings(library)
    standing = {}
    for begin, signs in stretches(word, many):
        low, high = span(library, signs)
        for text, at in order[low:high]:
            standing[(text, at - begin)] = True
    return [place for place in _with_room(library, word) if place in standing]


def near_by_stretches(library, word, most):
    """What near tells, found by stretches without wrong signs, and how many places were looked at."""
    if not is_word(word):
        raise NoWord()
    if not _is_most(most):
        raise NoNumber()
    # A word of most signs or fewer may have all of them wrong.
    found = _with_stretch(library, word, most + 1) if len(word) > most else _with_room(library, word)
    return (_near(library, word, most, found), len(found))
