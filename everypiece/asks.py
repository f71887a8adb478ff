"""Questions about pieces: where words stand, and which pieces there are (4)."""

from everypiece.endings import ending, endings, lengths
from everypiece.errors import NoNumber, NoPlace, NoWord
from everypiece.kinds import is_number, is_word
from everypiece.libraries import MOST_SIGNS, all_places, is_place


def places(library, word):
    """The ascending list of the places at which a word stands."""
    if not is_word(word):
        raise NoWord()
    return [(text, at) for text, at in all_places(library) if library.texts[text].startswith(word, at)]


def count(library, word):
    """At how many places a word stands."""
    return len(places(library, word))


def first_place(library, word):
    """The least place at which a word stands, None without."""
    return min(places(library, word), default=None)


def last_place(library, word):
    """The greatest place at which a word stands, None without."""
    return max(places(library, word), default=None)


def next_place(library, word, place):
    """The least place at which a word stands that is greater than a place, None without."""
    found = places(library, word)
    if not is_place(library, place):
        raise NoPlace()
    return min([other for other in found if other > place], default=None)


def texts_with(library, word):
    """The lot of the texts in which a word stands."""
    return tuple(sorted({text for text, _ in places(library, word)}))


def span(library, word):
    """The pair (from, behind) of the numbers of the endings that begin with a word."""
    many = count(library, word)
    ahead = len([place for place in all_places(library) if ending(library, place) < word])
    return (ahead, ahead + many)


def gap(library, word):
    """The places of the two endings between which a word would stand, None for a piece."""
    first, behind = span(library, word)
    if first < behind:
        return None
    order = endings(library)
    less = order[first - 1] if first > 0 else None
    greater = order[first] if first < len(order) else None
    return (less, greater)


def is_gap(library, word, thing):
    """Whether a thing is the gap of a word."""
    right = gap(library, word)
    if not isinstance(thing, tuple):
        return False
    # Flags are equal to numbers, so the parts are looked at first.
    return all([part is None or is_place(library, part) for part in thing]) and thing == right


def all_pieces(library):
    """How many unlike pieces there are."""
    signs = sum([len(ending(library, place)) for place in all_places(library)])
    return signs - sum(lengths(library))


def many_long(library, many):
    """How many unlike pieces of so many signs there are."""
    if not is_number(many) or many < 1 or many > MOST_SIGNS:
        raise NoNumber()
    return len({text[at:at + many] for text in library.texts for at in range(len(text) - many + 1)})


def piece_numbered(library, number):
    """The piece with this number among all, ascending."""
    if not is_number(number):
        raise NoNumber()
    left = number
    for place, length in zip(endings(library), lengths(library)):
        signs = ending(library, place)
        # What an ending begins with and the one ahead of it does not: each piece comes once so.
        if left < len(signs) - length:
            return signs[:length + left + 1]
        left -= len(signs) - length
    raise NoNumber()


def number_of(library, word):
    """The number of a piece among all, None for what is no piece."""
    first, behind = span(library, word)
    if first == behind:
        return None
    order = endings(library)
    common_lengths = lengths(library)
    ahead = sum([len(ending(library, order[number])) - common_lengths[number] for number in range(first)])
    return ahead + len(word) - common_lengths[first] - 1
