"""Patterns with holes: their texts, and where they fit (9.1 to 9.3)."""

from everypiece.errors import BadPattern, NoPattern, TooMany
from everypiece.kinds import is_number, is_sign, is_tuple, is_word

MOST_PARTS = 30
MOST_IN_LOT = 20
MOST_GAP = 20
MOST_FITS = 20000

# What has a "\" ahead of it in a pattern's text: as a sign, and within a lot.
MARKED_SIGNS = "?[{\\"
MARKED_IN_LOT = "]\\"


def _is_lot(thing):
    """Whether a thing is an ascending string of 1 to 20 unlike signs."""
    if not is_word(thing) or len(thing) > MOST_IN_LOT:
        return False
    return all([one < other for one, other in zip(thing, thing[1:])])


def _is_part(thing):
    """Whether a thing is a part of a pattern."""
    if not isinstance(thing, tuple) or len(thing) == 0 or not isinstance(thing[0], str):
        return False
    word = thing[0]
    if word == "any":
        return len(thing) == 1
    if word == "sign":
        return len(thing) == 2 and is_sign(thing[1])
    if word == "lot":
        return len(thing) == 2 and _is_lot(thing[1])
    if word != "gap" or len(thing) != 3 or not is_number(thing[1]) or not is_number(thing[2]):
        return False
    return thing[1] <= thing[2] <= MOST_GAP


def is_pattern(thing):
    """Whether a thing is a pattern: a tuple of 1 to 30 parts, no gap at its ends or beside another one."""
    if not isinstance(thing, tuple) or len(thing) < 1 or len(thing) > MOST_PARTS:
        return False
    if not all([_is_part(part) for part in thing]):
        return False
    gaps = [part[0] == "gap" for part in thing]
    if gaps[0] or gaps[-1]:
        return False
    return not any([one and other for one, other in zip(gaps, gaps[1:])])


def _marked(signs, marked):
    """Signs, with a backslash ahead of each marked one."""
    return "".join(["\\" + sign if sign in marked else sign for sign in signs])


def _part_text(part):
    """The text of a part."""
    word = part[0]
    if word == "sign":
        return _marked(part[1], MARKED_SIGNS)
    if word == "lot":
        return "[" + _marked(part[1], MARKED_IN_LOT) + "]"
    if word == "gap":
        return "{" + str(part[1]) + "," + str(part[2]) + "}"
    return "?"


def pattern_text(pattern):
    """The text of a pattern."""
    if not is_pattern(pattern):
        raise NoPattern()
    return "".join([_part_text(part) for part in pattern])


# Each of the next functions reads from a place of a text on, and returns what it read
# and the place behind it. Past the end of the text a slice of one sign is empty.

def _read_sign(text, at):
    """A sign as a part."""
    marked = text[at] == "\\"
    if marked:
        at += 1
    sign = text[at:at + 1]
    if not is_sign(sign) or marked and sign not in MARKED_SIGNS:
        raise BadPattern(at)
    return ("sign", sign), at + 1


def _read_lot(text, at):
    """A lot, from its first sign on."""
    signs = ""
    while text[at:at + 1] != "]" or signs == "":
        # The greatest sign that a backslash can stand ahead of is "]".
        marked = text[at:at + 1] == "\\" and len(signs) < MOST_IN_LOT and signs[-1:] < "]"
        if marked:
            at += 1
        sign = text[at:at + 1]
        if not is_sign(sign) or marked != (sign in MARKED_IN_LOT):
            raise BadPattern(at)
        if len(signs) == MOST_IN_LOT or sign <= signs[-1:]:
            raise BadPattern(at)
        signs += sign
        at += 1
    return ("lot", signs), at + 1


def _read_bound(text, at, least, close):
    """A number of a gap, from a least one on, and the sign that closes it."""
    bounds = [str(number) for number in range(least, MOST_GAP + 1)]
    figures = ""
    while at < len(text) and any([bound.startswith(figures + text[at]) for bound in bounds]):
        figures += text[at]
        at += 1
    if figures not in bounds or text[at:at + 1] != close:
        raise BadPattern(at)
    return int(figures), at + 1


def _read_part(text, at):
    """A part."""
    sign = text[at]
    if sign == "?":
        return ("any",), at + 1
    if sign == "[":
        return _read_lot(text, at + 1)
    if sign != "{":
        return _read_sign(text, at)
    least, at = _read_bound(text, at + 1, 0, ",")
    most, at = _read_bound(text, at, least, "}")
    return ("gap", least, most), at


def _may_have_gap(parts):
    """Whether a gap may come behind these parts, and one more part behind it."""
    return 0 < len(parts) < MOST_PARTS - 1 and parts[-1][0] != "gap"


def read_pattern(text):
    """The pattern of which this is the text."""
    if not isinstance(text, str):
        raise BadPattern(-1)
    parts = []
    at = 0
    while at < len(text):
        if len(parts) == MOST_PARTS or text[at] == "{" and not _may_have_gap(parts):
            raise BadPattern(at)
        part, at = _read_part(text, at)
        parts.append(part)
    if len(parts) == 0 or parts[-1][0] == "gap":
        raise BadPattern(len(text))
    return tuple(parts)


def may_be(part, sign):
    """Whether a sign may be dealt to a part that is no gap."""
    if part[0] == "any":
        return True
    return sign in part[1]


# Places of a text are kept as the bits of a number: so those behind all dealings are found together.

def _fitting_bits(text, pattern):
    """For each part the bits of the places of a text whose signs may be dealt to it, none for a gap."""
    known = {}
    for part in pattern:
        if part[0] != "gap" and part not in known:
            known[part] = sum([1 << at for at, sign in enumerate(text) if may_be(part, sign)])
    return [known.get(part, 0) for part in pattern]


def _ends(pattern, bits, at):
    """The bits of the places behind all fits from a place on."""
    ends = 1 << at
    for part, fitting in zip(pattern, bits):
        if part[0] != "gap":
            ends = (ends & fitting) << 1
        else:
            begins = ends << part[1]
            ends = begins
            for _ in range(part[2] - part[1]):
                begins = begins << 1
                ends = ends | begins
    return ends


def _ends_of_all(library, pattern):
    """The list of the triples (text, at, ends) of all places from which a fit goes, ascending."""
    found = []
    for number, text in enumerate(library.texts):
        bits = _fitting_bits(text, pattern)
        found.extend([(number, at, _ends(pattern, bits, at)) for at in range(len(text))])
    return [(text, at, ends) for text, at, ends in found if ends > 0]


def _first_end(ends):
    """The least of the places that are kept as bits."""
    return (ends & -ends).bit_length() - 1


def fits(library, pattern):
    """The ascending tuple of all fits (text, at, many)."""
    if not is_pattern(pattern):
        raise NoPattern()
    found = []
    for text, at, ends in _ends_of_all(library, pattern):
        while ends > 0:
            end = _first_end(ends)
            found.append((text, at, end - at))
            ends -= 1 << end
        if len(found) > MOST_FITS:
            raise TooMany(MOST_FITS)
    return tuple(found)


def is_fit(library, pattern, thing):
    """Whether a thing is a fit of a pattern."""
    if not is_pattern(pattern):
        raise NoPattern()
    if not is_tuple(thing, 3) or not all([is_number(part) for part in thing]):
        return False
    number, at, many = thing
    if number >= len(library.texts) or at + many > len(library.texts[number]):
        return False
    bits = _fitting_bits(library.texts[number], pattern)
    return (_ends(pattern, bits, at) >> (at + many)) % 2 == 1


def fitting_pieces(library, pattern):
    """The ascending tuple of the unlike pieces at all fits."""
    return tuple(sorted({library.texts[text][at:at + many] for text, at, many in fits(library, pattern)}))


def longest_fits(library, pattern):
    """Of the fits from each place the longest one."""
    if not is_pattern(pattern):
        raise NoPattern()
    return tuple([(text, at, ends.bit_length() - 1 - at) for text, at, ends in _ends_of_all(library, pattern)])


def apart_fits(library, pattern):
    """As many fits as can be, no two of which have a place in common; each one ends as early as can be."""
    if not is_pattern(pattern):
        raise NoPattern()
    # The shortest fit from each place; of those with one end the shortest one is first.
    shortest = [(text, _first_end(ends), -at) for text, at, ends in _ends_of_all(library, pattern)]
    found = []
    for text, end, minus_at in sorted(shortest):
        if len(found) == 0 or found[-1][0] < text or found[-1][1] + found[-1][2] <= -minus_at:
            found.append((text, -minus_at, end + minus_at))
    return tuple(found)
