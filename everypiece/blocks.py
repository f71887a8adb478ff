"""Blocks of a text, made level by level from its contents alone (2)."""

from everypiece.errors import NoLevel, NoNames, NoNumber, NoText
from everypiece.kinds import is_number, is_signs, is_word
from everypiece.libraries import is_text

BASE = 128
ROUNDS = 5


def _is_names(thing):
    """Whether a thing is a tuple of one name or more."""
    return isinstance(thing, tuple) and len(thing) > 0 and all([is_word(name) for name in thing])


def _number(name):
    """The number of a name: its signs as figures, the first one the highest."""
    number = 0
    for sign in name:
        number = number * BASE + ord(sign)
    return number


def _next_coins(row):
    """The coins behind one round more."""
    found = [row[0] % 2]
    for ahead, coin in zip(row, row[1:]):
        unlike = ahead ^ coin
        place = (unlike & -unlike).bit_length() - 1
        found.append(2 * place + (coin >> place) % 2)
    return found


def _coins(names):
    """The coins of names, the neighbours of which are unlike, behind all rounds."""
    row = [_number(name) for name in names]
    for _ in range(ROUNDS):
        row = _next_coins(row)
    return row


def coins(names):
    """The tuple of the coins of a row of names behind five rounds."""
    if not _is_names(names):
        raise NoNames()
    for ahead, name in zip(names, names[1:]):
        if ahead == name:
            raise NoNames()
    return tuple(_coins(names))


def _peaks(names):
    """The numbers of the names of a row whose coins are greater than those beside them."""
    row = _coins(names)
    return [number for number in range(1, len(row) - 1) if row[number - 1] < row[number] > row[number + 1]]


def _groups(names):
    """The ascending list of the numbers of the names that begin a group."""
    many = len(names)
    new = [number == 0 or names[number] != names[number - 1] for number in range(many)]
    # A name stands alone if neither neighbour is like it; only such names make rows.
    alone = [new[number] and (number + 1 == many or new[number + 1]) for number in range(many)]
    found = []
    first = 0
    while first < many:
        behind = first + 1
        while behind < many and (alone[behind] if alone[first] else not new[behind]):
            behind += 1
        found.append(first)
        if alone[first]:
            found.extend([first + peak for peak in _peaks(names[first:behind])])
        first = behind
    return found


def groups(names):
    """The lot of the numbers of the names that begin a group."""
    if not _is_names(names):
        raise NoNames()
    return tuple(_groups(names))


def _names(text, begins):
    """The names of the blocks that begin at these places of a text."""
    return [text[begin:behind] for begin, behind in zip(begins, begins[1:] + [len(text)])]


def _levels(text):
    """Level by level the lists of the places of a text at which blocks begin."""
    begins = list(range(len(text)))
    found = [begins]
    while len(begins) > 1:
        begins = [begins[number] for number in _groups(_names(text, begins))]
        found.append(begins)
    return found


def levels(text):
    """Level by level the lots of the places of a text at which blocks begin."""
    if not is_text(text):
        raise NoText()
    return [tuple(begins) for begins in _levels(text)]


def blocks(text, level):
    """The tuple of the names of a level of a text."""
    if not is_text(text):
        raise NoText()
    found = _levels(text)
    if not is_number(level) or level >= len(found):
        raise NoLevel()
    return tuple(_names(text, found[level]))


def block_lot(text):
    """The ascending list of all unlike names of all levels of a text."""
    if not is_text(text):
        raise NoText()
    return sorted({name for begins in _levels(text) for name in _names(text, begins)})


def _stretches(text):
    """Level by level the lists of the pairs (from, behind) of the blocks of a text."""
    return [list(zip(begins, begins[1:] + [len(text)])) for begins in _levels(text)]


def _kept_stretches(row, at, behind, longer):
    """A dict of the blocks of a level that lie ahead of at, or, then moved on, from behind on."""
    kept = {}
    for begin, end in row:
        if end <= at:
            kept[(begin, end)] = True
        elif begin >= behind:
            kept[(begin + longer, end + longer)] = True
    return kept


def new_blocks(text, at, many, signs):
    """Level by level how many blocks are new where many signs from at on are exchanged for signs."""
    if not is_text(text):
        raise NoText()
    if not is_number(at) or at > len(text):
        raise NoNumber()
    if not is_number(many) or many > len(text) - at:
        raise NoNumber()
    if not is_signs(signs):
        raise NoText()
    later = text[:at] + signs + text[at + many:]
    if not is_text(later):
        raise NoText()
    elder = _stretches(text)
    counts = []
    for level, row in enumerate(_stretches(later)):
        here = elder[level] if level < len(elder) else []
        kept = _kept_stretches(here, at, at + many, len(signs) - many)
        counts.append(len([block for block in row if block not in kept]))
    return counts
