"""A shelf: the order of endings with its lengths, kept under edits (3.3)."""

from everypiece.edits import all_taken, edited, leading_back
from everypiece.endings import common, ending, endings, in_order, is_ahead, lengths
from everypiece.errors import NoPlace, NothingDone, NoWord
from everypiece.kinds import is_word
from everypiece.libraries import MOST_SIGNS, all_places, is_place, size


def _stays(library, place, later, then):
    """Whether a sign that is taken on stays in its text, with the same ending."""
    return place[0] == then[0] and ending(library, place) == ending(later, then)


def _merged(library, kept, others):
    """The rows of kept ones, and of the other places, with None for the length, in order."""
    rows = []
    index = 0
    for place in others:
        while index < len(kept) and is_ahead(library, kept[index][0], place):
            rows.append(kept[index])
            index += 1
        rows.append((place, None))
    return rows + kept[index:]


def _known_lengths(library, rows):
    """The lengths of such rows; where a neighbour has been put in, they are told from the signs."""
    found = [0] * min(len(rows), 1)
    for (one, one_length), (other, other_length) in zip(rows, rows[1:]):
        if one_length is None or other_length is None:
            found.append(common(library, one, other))
        else:
            found.append(other_length)
    return found


class Shelf:
    """Keeps the order of the endings of a library, with its lengths, under edits."""

    def __init__(self, library):
        self._library = library
        self._order = endings(library)
        self._lengths = lengths(library)
        # Pairs of an edit and the edits that lead back from what it made.
        self._done = []
        self._undone = []

    def library(self):
        """The Library as it is now."""
        return self._library

    def order(self):
        """The list of all places in the order of their endings."""
        return list(self._order)

    def common_lengths(self):
        """The list of common of each ending in the order and the one ahead, 0 for the first."""
        return list(self._lengths)

    def rank_of(self, place):
        """The number of the ending at a place in the order."""
        if not is_place(self._library, place):
            raise NoPlace()
        return self._order.index(place)

    def _many_ahead(self, word, with_like):
        """How many endings, cut to the length of a word, are less than it, or also those that are like it."""
        low = 0
        high = len(self._order)
        while low < high:
            middle = (low + high) // 2
            signs = ending(self._library, self._order[middle])[:len(word)]
            if signs < word or with_like and signs == word:
                low = middle + 1
            else:
                high = middle
        return low

    def span_of(self, word):
        """The pair (from, behind) of the numbers of the endings that begin with a word."""
        if not is_word(word):
            raise NoWord()
        return (self._many_ahead(word, False), self._many_ahead(word, True))

    def _kept(self, later, taken):
        """The rows (place behind an edit, length) of the endings that stay, in order.

        Each length is common of an ending and the one that stays ahead of it:
        the least of the lengths behind that one, up to it.
        """
        rows = []
        least = 0
        for place, length in zip(self._order, self._lengths):
            least = min(least, length)
            then = taken.get(place)
            if then is not None and _stays(self._library, place, later, then):
                rows.append((then, least))
                least = MOST_SIGNS
        return rows

    def _go_on(self, edit):
        """Does an edit; returns how many signs are gone, new, and put in at another place of the order."""
        ahead = self._library
        later = edited(ahead, edit)
        taken = all_taken(ahead, edit)
        kept = self._kept(later, taken)
        standing = {place: True for place, _ in kept}
        others = in_order(later, [place for place in all_places(later) if place not in standing])
        rows = _merged(later, kept, others)
        self._library = later
        self._order = [place for place, _ in rows]
        self._lengths = _known_lengths(later, rows)
        return (size(ahead) - len(taken), size(later) - len(taken), len(taken) - len(kept))

    def do(self, edit):
        """Does an edit; returns how many signs are gone, how many are new, how many of the others were put in again."""
        step = (edit, leading_back(self._library, edit))
        told = self._go_on(edit)
        self._done.append(step)
        self._undone = []
        return told

    def back(self):
        """Takes back the last edit that was done and is not taken back."""
        if len(self._done) == 0:
            raise NothingDone()
        step = self._done.pop()
        for edit in step[1]:
            self._go_on(edit)
        self._undone.append(step)

    def again(self):
        """Does again the last edit that was taken back, if none was done since."""
        if len(self._undone) == 0:
            raise NothingDone()
        step = self._undone.pop()
        self._go_on(step[0])
        self._done.append(step)

    def depth(self):
        """How many edits can be taken back."""
        return len(self._done)

    def copy(self):
        """Another Shelf that goes on apart."""
        other = Shelf(self._library)
        other._done = list(self._done)
        other._undone = list(self._undone)
        return other
