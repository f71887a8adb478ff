"""The row of signs ahead of the endings, which tells the texts back (5)."""

from everypiece.endings import endings
from everypiece.errors import NoNumber, NoRow, NoSign, NoWord
from everypiece.kinds import is_number, is_sign, is_signs, is_word
from everypiece.libraries import MOST_SIGNS, MOST_TEXTS, Library


def row_ahead(library):
    """The last sign of each text, then the sign ahead of each ending in order; "" where there is none."""
    texts = library.texts
    return tuple([text[-1:] for text in texts] + [texts[text][:at][-1:] for text, at in endings(library)])


def _has_form(thing):
    """Whether a thing is a tuple of signs and "", of no more than a library has."""
    if not isinstance(thing, tuple) or len(thing) > MOST_TEXTS + MOST_SIGNS:
        return False
    if not all([is_signs(sign) and len(sign) < 2 for sign in thing]):
        return False
    texts = thing.count("")
    return texts <= MOST_TEXTS and len(thing) - texts <= MOST_SIGNS


def row_leads(row):
    """For each number in a row of signs that at which the sign there begins an ending, None for ""."""
    found = [None] * len(row)
    # Of endings that begin with one sign the order is that of what is behind it: as in the row.
    in_order = sorted([(sign, number) for number, sign in enumerate(row)])
    for begun, (sign, number) in enumerate(in_order):
        if sign != "":
            found[number] = begun
    return found


def _spelled(row):
    """The texts that the signs of a row spell, going by leads from each text's number on."""
    begun = row_leads(row)
    texts = []
    for text in range(row.count("")):
        signs = []
        number = text
        while row[number] != "":
            signs.append(row[number])
            number = begun[number]
        texts.append("".join(signs[::-1]))
    return tuple(texts)


def _texts_of(thing):
    """The texts of the library of which a thing is the row, None if it is none."""
    if not _has_form(thing):
        return None
    texts = _spelled(thing)
    # Leads never meet, so the texts end, and signs that they leave out go round in rings.
    if sum([len(text) for text in texts]) + len(texts) < len(thing):
        return None
    return texts


def is_row(thing):
    """Whether a thing is the row of some library."""
    return _texts_of(thing) is not None


def told_back(row):
    """The Library of which it is the row."""
    texts = _texts_of(row)
    if texts is None:
        raise NoRow()
    return Library(texts)


def leads(row):
    """For each number in the row that at which the sign there itself begins an ending, None for ""."""
    if not is_row(row):
        raise NoRow()
    return tuple(row_leads(row))


def _many_ahead(row, sign, number):
    """How many times a sign stands in a row ahead of a number."""
    return row[:number].count(sign)


def many_ahead(row, sign, number):
    """How many times a sign stands in the row ahead of a number."""
    if not is_row(row):
        raise NoRow()
    if not is_sign(sign):
        raise NoSign()
    if not is_number(number) or number > len(row):
        raise NoNumber()
    return _many_ahead(row, sign, number)


def _less_than(row, sign):
    """How many texts there are, and signs in a row that are less than this one."""
    # "" is less than each sign, and stands once for each text.
    return len([other for other in row if other < sign])


def less_than(row, sign):
    """How many texts there are, and signs in the row that are less than this one."""
    if not is_row(row):
        raise NoRow()
    if not is_sign(sign):
        raise NoSign()
    return _less_than(row, sign)


def found_behind(row, word):
    """The pair (first, behind) of the row's numbers of the endings that begin with a word."""
    if not is_row(row):
        raise NoRow()
    if not is_word(word):
        raise NoWord()
    first = 0
    behind = len(row)
    for sign in word[::-1]:
        less = _less_than(row, sign)
        first = less + _many_ahead(row, sign, first)
        behind = less + _many_ahead(row, sign, behind)
        if first == behind:
            break
    return (first, behind)
