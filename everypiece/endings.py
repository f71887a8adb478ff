"""Endings: their order, what they have in common, and what edits do to it (3.1, 3.2)."""

from everypiece.edits import all_taken, edited, place_behind
from everypiece.errors import NoPlace
from everypiece.libraries import all_places, is_place, size


def in_order(library, found):
    """The list of such places, in the order of their endings."""
    rows = [(library.texts[text][at:], text, at) for text, at in found]
    return [(text, at) for _, text, at in sorted(rows)]


def endings(library):
    """The list of all places in the order of their endings."""
    return in_order(library, all_places(library))


def ending(library, place):
    """The signs of the text from a place on."""
    if not is_place(library, place):
        raise NoPlace()
    text, at = place
    return library.texts[text][at:]


def is_ahead(library, one, other):
    """Whether the ending at one place stands in order ahead of that at the other."""
    return (ending(library, one), one) < (ending(library, other), other)


def rank(library, place):
    """The number of the ending at a place in the order."""
    if not is_place(library, place):
        raise NoPlace()
    return len([other for other in all_places(library) if is_ahead(library, other, place)])


def _common(one, other):
    """How many signs two strings have in common at the front."""
    # Sought by halves: sign by sign the endings of one long text would take too long.
    low = 0
    high = min(len(one), len(other))
    while low < high:
        middle = (low + high + 1) // 2
        if one[low:middle] == other[low:middle]:
            low = middle
        else:
            high = middle - 1
    return low


def common(library, one, other):
    """How many signs the endings at two places have in common at the front."""
    return _common(ending(library, one), ending(library, other))


def lengths(library):
    """The list of common of each ending in the order and the one ahead, 0 for the first."""
    order = endings(library)
    return [0] * min(len(order), 1) + [common(library, one, other) for one, other in zip(order, order[1:])]


def _has_all_places(library, thing):
    """Whether a thing is a list or tuple of just all places, each once."""
    if not isinstance(thing, (list, tuple)) or len(thing) != size(library):
        return False
    if not all([is_place(library, place) for place in thing]):
        return False
    return len(set(thing)) == len(thing)


def order_fault(library, thing):
    """What is wrong with a thing as the list of endings, None if nothing is."""
    if not _has_all_places(library, thing):
        return ("form",)
    for number, (one, other) in enumerate(zip(thing, thing[1:])):
        if is_ahead(library, other, one):
            return ("order", number)
    return None


def is_order(library, thing):
    """Whether a thing is the list or tuple of endings."""
    return order_fault(library, thing) is None


def kept_for(library, edit, place):
    """How many signs the ending of a sign has in common ahead of an edit and behind it, None if it is the same."""
    then = place_behind(library, edit, place)
    if then is None:
        raise NoPlace()
    signs = ending(library, place)
    later = ending(edited(library, edit), then)
    return None if signs == later else _common(signs, later)


def _taken_ranks(library, edit):
    """For each sign that is taken on, places ascending: (place, rank ahead of the edit, rank behind it)."""
    taken = all_taken(library, edit)
    ahead = {place: number for number, place in enumerate(endings(library))}
    behind = {place: number for number, place in enumerate(endings(edited(library, edit)))}
    return [(place, ahead[place], behind[taken[place]]) for place in all_places(library) if place in taken]


def exchanged(library, edit):
    """The ascending list of the pairs of places whose endings stand the other way round behind an edit."""
    rows = _taken_ranks(library, edit)
    return [(one, other) for one, one_ahead, one_behind in rows for other, other_ahead, other_behind in rows
            if one_ahead < other_ahead and one_behind > other_behind]


def _many_below(numbers, number):
    """How many of the ascending numbers are less than this one."""
    low = 0
    high = len(numbers)
    while low < high:
        middle = (low + high) // 2
        if numbers[middle] < number:
            low = middle + 1
        else:
            high = middle
    return low


def _longest_rising(numbers):
    """The indexes of a longest row of rising ones among unlike numbers."""
    # For each length, the least number with which a row of it ends, and its index.
    least = []
    last = []
    ahead = []
    for index, number in enumerate(numbers):
        many = _many_below(least, number)
        ahead.append(last[many - 1] if many > 0 else None)
        least[many:many + 1] = [number]
        last[many:many + 1] = [index]
    found = []
    index = last[-1] if last else None
    while index is not None:
        found.append(index)
        index = ahead[index]
    return found[::-1]


def staying(library, edit):
    """A longest tuple of places of signs that are taken on, by rank, no two of which are exchanged."""
    rows = [(one_ahead, one_behind, place) for place, one_ahead, one_behind in _taken_ranks(library, edit)]
    rows = sorted(rows)
    return tuple([rows[index][2] for index in _longest_rising([one_behind for _, one_behind, _ in rows])])


def fewest_moves(library, edit):
    """How many of the signs that are taken on must be taken out of the order and put in again."""
    return len(all_taken(library, edit)) - len(staying(library, edit))
