"""Of a text: periods, borders, runs, and phrasings (8.2, 8.3)."""

from everypiece.errors import NoPhrases, NoText
from everypiece.kinds import is_number, is_sign, is_tuple
from everypiece.libraries import MOST_SIGNS, is_text


def _has_period(text, first, behind, many):
    """Whether signs so many apart are alike in a stretch of a text."""
    return text[first + many:behind] == text[first:behind - many]


def _periods(text):
    """The ascending list of the periods of a text."""
    return [many for many in range(1, len(text) + 1) if _has_period(text, 0, len(text), many)]


def periods(text):
    """The lot of the periods of a text."""
    if not is_text(text):
        raise NoText()
    return tuple(_periods(text))


def borders(text):
    """The ascending list of the words, shorter than a text, with which it begins and ends."""
    if not is_text(text):
        raise NoText()
    # All begin the text, so the shorter ones are less.
    return [text[:len(text) - many] for many in reversed(_periods(text)) if many < len(text)]


def _stretches(text, many):
    """The stretches (from, behind) of a text, as long as can be, that have a period and are twice as long."""
    found = []
    first = 0
    for at in range(len(text) - many + 1):
        if at + many == len(text) or text[at] != text[at + many]:
            if at - first >= many:
                found.append((first, at + many))
            first = at + 1
    return found


def runs(text):
    """The ascending list of the runs (from, behind, least period) of a text."""
    if not is_text(text):
        raise NoText()
    least = {}
    for many in range(1, len(text) // 2 + 1):
        for stretch in _stretches(text, many):
            # One that is so long has each lesser period just as far, so it has been found by it.
            least.setdefault(stretch, many)
    return sorted([(first, behind, many) for (first, behind), many in least.items()])


def _is_stretch(text, thing):
    """Whether a thing is a triple of a stretch of a text and a number, from 1 on, at most half as long."""
    if not is_tuple(thing, 3) or not all([is_number(part) for part in thing]):
        return False
    first, behind, many = thing
    return behind <= len(text) and many > 0 and first + 2 * many <= behind


def is_run(text, thing):
    """Whether a thing is a run of a text."""
    if not is_text(text):
        raise NoText()
    if not _is_stretch(text, thing):
        return False
    first, behind, many = thing
    if not _has_period(text, first, behind, many):
        return False
    if first > 0 and text[first - 1] == text[first - 1 + many]:
        return False
    if behind < len(text) and text[behind] == text[behind - many]:
        return False
    return not any([_has_period(text, first, behind, less) for less in range(1, many)])


def _is_phrase(thing, many):
    """Whether a thing is a phrase that begins behind so many signs."""
    if is_sign(thing):
        return True
    return is_tuple(thing, 2) and is_number(thing[0]) and thing[0] < many and is_number(thing[1]) and thing[1] > 0


def _with_phrase(text, phrase):
    """A text with a phrase behind it."""
    if isinstance(phrase, str):
        return text + phrase
    first, many = phrase
    # What goes on into itself goes round in the signs that it begins with.
    ring = text[first:]
    return text + (ring * (many // len(ring) + 1))[:many]


def told_by(phrases):
    """The text of phrases."""
    if not isinstance(phrases, tuple):
        raise NoPhrases(-1)
    text = ""
    for index, phrase in enumerate(phrases):
        if not _is_phrase(phrase, len(text)):
            raise NoPhrases(index)
        if len(text) + (1 if isinstance(phrase, str) else phrase[1]) > MOST_SIGNS:
            raise NoPhrases(index)
        text = _with_phrase(text, phrase)
    return text


def _longest_phrase(text, first):
    """The longest phrase with which a phrasing of a text can go on from a place."""
    phrase = text[first]
    many = 1
    while first + many <= len(text):
        # What begins ahead of the place ends ahead of the last sign of the same signs from there on.
        begin = text.find(text[first:first + many], 0, first + many - 1)
        if begin < 0:
            break
        phrase = (begin, many)
        many += 1
    return phrase


def _phrasing(text):
    """One of the fewest phrases of a text: who always takes the longest one needs no more than anybody."""
    found = []
    first = 0
    while first < len(text):
        phrase = _longest_phrase(text, first)
        found.append(phrase)
        first += 1 if isinstance(phrase, str) else phrase[1]
    return tuple(found)


def phrasing(text):
    """One of the fewest phrases of a text."""
    if not is_text(text):
        raise NoText()
    return _phrasing(text)


def is_phrasing(text, thing):
    """Whether a thing is a phrasing of a text."""
    if not is_text(text):
        raise NoText()
    try:
        return told_by(thing) == text
    except NoPhrases:
        return False


def fewest_phrases(text):
    """How many phrases the fewest are."""
    if not is_text(text):
        raise NoText()
    return len(_phrasing(text))
