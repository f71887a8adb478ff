"""Webs: classes and what ties them to either side (7.1, 7.2)."""

from everypiece.classes import Chart, charted
from everypiece.errors import BadWeb, NoWord
from everypiece.kinds import is_number, is_sign, is_tuple, is_word


def _right_ties(chart, number):
    """The ascending tuple of the triples (sign, class, offset) of a class's longest piece and signs behind it."""
    return tuple([(sign,) + chart.homes[stem] for sign, stem in chart.tied_behind(number)])


def _left_ties(chart, number):
    """The ascending tuple of the triples (sign, class, offset) of signs ahead of a class's longest piece and it."""
    return tuple([(sign,) + chart.homes[stem] for sign, stem in chart.tied_ahead(number)])


def right_ties(library, number):
    """The ascending tuple of the triples (sign, class, offset) of a class's longest piece and signs behind it."""
    return _right_ties(charted(library, number), number)


def left_ties(library, number):
    """The ascending tuple of the triples (sign, class, offset) of signs ahead of a class's longest piece and it."""
    return _left_ties(charted(library, number), number)


def _is_headed(thing):
    """Whether a thing is a tuple of five, a word first."""
    return is_tuple(thing, 5) and is_word(thing[0])


def _leads_to(rows, tie, piece):
    """Whether a triple names a row, and an offset at which a piece stands in its longest."""
    _, number, offset = tie
    if not is_number(number) or number >= len(rows) or not _is_headed(rows[number]):
        return False
    return is_number(offset) and rows[number][0][offset:offset + len(piece)] == piece


def _are_ties(rows, thing, longest, are_right):
    """Whether a thing is right, or left, ties of a row with this longest."""
    if not isinstance(thing, tuple):
        return False
    last = ""
    for tie in thing:
        if not is_tuple(tie, 3) or not is_sign(tie[0]) or tie[0] <= last:
            return False
        last = tie[0]
        if not _leads_to(rows, tie, longest + last if are_right else last + longest):
            return False
    return True


def _is_web_row(rows, index):
    """Whether the thing with this index is a row among rows, those ahead of it being rows."""
    if not _is_headed(rows[index]):
        return False
    longest, many, least, right, left = rows[index]
    if not is_number(many) or many < 1:
        return False
    if not is_tuple(least, 2) or not is_number(least[0]) or not is_number(least[1]):
        return False
    if not _are_ties(rows, right, longest, True) or not _are_ties(rows, left, longest, False):
        return False
    if index == 0:
        return True
    ahead = rows[index - 1][0]
    return (len(ahead), ahead) < (len(longest), longest)


class Web:
    """A tuple of rows (longest, many, least, right ties, left ties), one for each class; it never changes."""

    def __init__(self, rows):
        if not isinstance(rows, tuple):
            raise BadWeb(-1)
        for index in range(len(rows)):
            if not _is_web_row(rows, index):
                raise BadWeb(index)
        self.rows = rows

    def __eq__(self, other):
        return isinstance(other, Web) and self.rows == other.rows


def _web_row(chart, number):
    """The row of a class."""
    low, behind, _, _ = chart.stem(number)
    least = min(chart.ranked[low:behind])
    return (chart.longest(number), behind - low, least, _right_ties(chart, number), _left_ties(chart, number))


def web_of(library):
    """The Web of the classes of a library."""
    chart = Chart(library)
    return Web(tuple([_web_row(chart, number) for number in range(len(chart.parts))]))


def _begun_by(web, sign):
    """The pair (class, offset) of the first place of a sign in the least row that has it, None if none has."""
    for number, row in enumerate(web.rows):
        offset = row[0].find(sign)
        if offset >= 0:
            return (number, offset)
    return None


def _tied_by(web, number, sign):
    """The pair (class, offset) to which a row's right tie by a sign leads, None if it has none."""
    for other, home, offset in web.rows[number][3]:
        if other == sign:
            return (home, offset)
    return None


def read_by(web, word):
    """The pair (class, offset) of a string that the web reads, None else."""
    if not is_word(word):
        raise NoWord()
    found = _begun_by(web, word[0])
    for many in range(1, len(word)):
        if found is None:
            return None
        number, offset = found
        longest = web.rows[number][0]
        if offset + many < len(longest):
            if longest[offset + many] != word[many]:
                return None
        else:
            tied = _tied_by(web, number, word[many])
            found = None if tied is None else (tied[0], tied[1] + offset)
    return found


def count_by(web, word):
    """How many places the row has to which a word is read, 0 for what is not read."""
    found = read_by(web, word)
    return 0 if found is None else web.rows[found[0]][1]


def first_by(web, word):
    """The least place of the row to which a word is read, moved by the offset, None for what is not read."""
    found = read_by(web, word)
    if found is None:
        return None
    number, offset = found
    text, at = web.rows[number][2]
    return (text, at + offset)


def _many_behind(web, piece):
    """How many places the rows have to which a sign more leads, from the end of a left tie's piece."""
    number, end = piece
    longest, many, _, right, _ = web.rows[number]
    if end < len(longest):
        return many
    return sum([web.rows[home][1] for _, home, _ in right])


def _many_texts(web, row):
    """How many texts a longest is: its places less those with a sign ahead, or behind, and those with both."""
    longest, many, _, right, left = row
    ahead = sum([web.rows[home][1] for _, home, _ in left])
    behind = sum([web.rows[home][1] for _, home, _ in right])
    both = sum([_many_behind(web, (home, offset + 1 + len(longest))) for _, home, offset in left])
    return many - ahead - behind + both


def texts_by(web):
    """The ascending list of the texts that have signs, told by the web alone."""
    found = []
    for row in web.rows:
        found.extend([row[0]] * _many_texts(web, row))
    return sorted(found)


def is_web(library, thing):
    """Whether a thing is the Web of a library."""
    return isinstance(thing, Web) and thing == web_of(library)
