"""Repeats, pieces that stand alone, and words that are lacking (8.1)."""

from everypiece.classes import NONE, Chart
from everypiece.endings import ending, endings, lengths, rank
from everypiece.errors import NoNumber, NoSigns
from everypiece.kinds import is_number, is_signs
from everypiece.libraries import MOST_TEXTS

MOST_LACKING = 8


def longest_repeat(library):
    """The least of the repeats with the most signs, None without."""
    row = lengths(library)
    most = max(row, default=0)
    if most == 0:
        return None
    return ending(library, endings(library)[row.index(most)])[:most]


def _is_greatest(chart, number):
    """Whether no sign can be put to a class's longest piece so that it still stands at two places."""
    low, behind, _, kids = chart.stem(number)
    if behind - low < 2:
        return False
    signs = [sign for sign in chart.signs_ahead[low:behind] if sign != NONE]
    if len(set(signs)) < len(signs):
        return False
    return all([chart.stems[kid][1] - chart.stems[kid][0] == 1 for kid in kids])


def greatest_repeats(library):
    """The ascending list of the repeats that stand in no other repeat."""
    chart = Chart(library)
    return sorted([longest for number, longest in enumerate(chart.longests()) if _is_greatest(chart, number)])


def common_longest(library, many):
    """The least of the longest pieces that stand in so many texts at least, None without."""
    if not is_number(many) or many < 1 or many > MOST_TEXTS:
        raise NoNumber()
    chart = Chart(library)
    texts = [text for text, _ in chart.ranked]
    found = [(-length, low, number) for number, (low, behind, length, _) in enumerate(chart.stems)
             if len(set(texts[low:behind])) >= many]
    return chart.spelled(min(found)[2]) if found else None


def least_alone(library, place):
    """The shortest piece that stands at this place alone, None without."""
    number = rank(library, place)
    signs = ending(library, place)
    # What it has in common with another ending it has so with one of those beside it.
    shared = max((lengths(library) + [0])[number:number + 2])
    return signs[:shared + 1] if shared < len(signs) else None


def alone(library):
    """The ascending list of the pieces at one place, all pieces within which stand at more."""
    chart = Chart(library)
    found = []
    for number, longest in enumerate(chart.longests()):
        if chart.many_places(number) == 1:
            found.extend([longest[begin:behind] for begin, behind in chart.least_parts(number)])
    return sorted(found)


def _is_lot(thing):
    """Whether a thing is an ascending string of at most 8 unlike signs."""
    if not is_signs(thing) or len(thing) > MOST_LACKING:
        return False
    return all([one < other for one, other in zip(thing, thing[1:])])


def _unmet(chart, core, aheads, behinds):
    """The words of a sign, a core, and a sign that never stand so.

    Behinds are pairs of a sign and the stem with the places of the core and it.
    """
    found = []
    for sign, stem in behinds:
        low, behind, _, _ = chart.stems[stem]
        found.extend([other + core + sign for other in aheads if chart.signs_ahead.find(other, low, behind) < 0])
    return found


def _is_over(word, signs):
    """Whether a word has no other signs than these."""
    return all([sign in signs for sign in sorted(set(word))])


def lacking(library, signs):
    """The ascending list of the words over signs that are no pieces, while all shorter words within them are."""
    if not _is_lot(signs):
        raise NoSigns()
    chart = Chart(library)
    firsts = [number for number, father in enumerate(chart.fathers) if father is None]
    behinds = [(chart.sign_at(number, 0), number) for number in firsts]
    standing = "".join([sign for sign, _ in behinds])
    found = [sign for sign in signs if sign not in standing]
    aheads = [sign for sign in signs if sign in standing]
    found.extend(_unmet(chart, "", aheads, [pair for pair in behinds if pair[0] in signs]))
    # What is between the ends of such a word stands ahead of unlike signs, and behind such: it cannot be grown.
    for number, core in enumerate(chart.longests()):
        if _is_over(core, signs):
            low, behind, _, _ = chart.stem(number)
            before = [sign for sign in signs if chart.signs_ahead.find(sign, low, behind) >= 0]
            ties = [pair for pair in chart.tied_behind(number) if pair[0] in signs]
            found.extend(_unmet(chart, core, before, ties))
    return sorted(found)
