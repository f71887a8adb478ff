"""Classes of like pieces, their fathers, and what edits do to them (6)."""

from everypiece.asks import span
from everypiece.edits import all_taken, edited
from everypiece.endings import endings, lengths
from everypiece.errors import NoClass
from everypiece.kinds import is_number, is_word
from everypiece.rows import row_ahead, row_leads

# No sign: stands for the sign ahead of an ending that begins its text.
NONE = "\n"


def _stems(sizes, row):
    """All stems (low, behind, length, kids), by the endings' sizes and common lengths, in order.

    Kids are the numbers of the stems of which a stem is the longest beginning; they stand ahead of it.
    """
    found = []
    # Beginnings (low, length, kids) of the last ending that may have endings to come; first the empty one.
    going = [(0, 0, [])]
    for number, (many, together) in enumerate(zip(sizes, row[1:] + [0])):
        if many > going[-1][1]:
            going.append((number, many, []))
        while going[-1][1] > together:
            low, length, kids = going.pop()
            if going[-1][1] < together:
                going.append((low, together, []))
            going[-1][2].append(len(found))
            found.append((low, number + 1, length, kids))
    return found


def _fathers(stems):
    """For each stem the number of that of which it is a kid, None if there is none."""
    found = [None] * len(stems)
    for number, (_, _, _, kids) in enumerate(stems):
        for kid in kids:
            found[kid] = number
    return found


class Chart:
    """The stems and the classes of a library, made at once.

    A STEM is a piece behind all places of which not one and the same sign stands. Its endings
    stand in order from low to behind, and no other stem has just these, so they tell it. A stem
    that is grown ahead stays a stem; one that cannot be grown is the longest piece of a class.
    """

    def __init__(self, library):
        self.texts = library.texts
        self.ranked = endings(library)
        many = len(self.texts)
        row = row_ahead(library)
        self.signs_ahead = "".join([sign if sign != "" else NONE for sign in row[many:]])
        self.begun = [None if begun is None else begun - many for begun in row_leads(row)[many:]]
        self.stems = _stems([len(self.texts[text]) - at for text, at in self.ranked], lengths(library))
        self.fathers = _fathers(self.stems)
        self.numbers = {(low, behind): number for number, (low, behind, _, _) in enumerate(self.stems)}
        # For each stem the pair (class, offset); for each class its stems, by their offsets.
        self.homes = [None] * len(self.stems)
        self.parts = []
        self._deal()

    def _longer(self, number):
        """The number of the stem with one sign more ahead, None if a stem cannot be grown."""
        low, behind, _, _ = self.stems[number]
        sign = self.signs_ahead[low]
        if sign == NONE or self.signs_ahead.count(sign, low, behind) < behind - low:
            return None
        return self.numbers[(self.begun[low], self.begun[behind - 1] + 1)]

    def _deal(self):
        """Deals all stems to classes."""
        longer = [self._longer(number) for number in range(len(self.stems))]
        by_length = sorted([(length, low, number) for number, (low, _, length, _) in enumerate(self.stems)])
        for _, _, number in by_length:
            if longer[number] is None:
                self.homes[number] = (len(self.parts), 0)
                self.parts.append([number])
        # The longer ones first: what a stem is grown to is longer than it.
        for _, _, number in by_length[::-1]:
            if longer[number] is not None:
                home, offset = self.homes[longer[number]]
                self.homes[number] = (home, offset + 1)
                self.parts[home].append(number)

    def stem(self, number):
        """The stem (low, behind, length, kids) that is the longest piece of a class."""
        return self.stems[self.parts[number][0]]

    def spelled(self, number):
        """The signs of a stem."""
        low, _, length, _ = self.stems[number]
        text, at = self.ranked[low]
        return self.texts[text][at:at + length]

    def longest(self, number):
        """The longest piece of a class."""
        return self.spelled(self.parts[number][0])

    def longests(self):
        """The list of the longest pieces of all classes."""
        return [self.longest(number) for number in range(len(self.parts))]

    def many_places(self, number):
        """At how many places the pieces of a class stand."""
        low, behind, _, _ = self.stem(number)
        return behind - low

    def least_lengths(self, number):
        """For each offset of a class's stems the length of the shortest piece of the class from there on."""
        fathers = [self.fathers[part] for part in self.parts[number]]
        return [1 if father is None else self.stems[father][2] + 1 for father in fathers]

    def least_parts(self, number):
        """The ascending list of the pairs (from, behind) of the least pieces of a class in its longest one."""
        ends = [offset + length for offset, length in enumerate(self.least_lengths(number))]
        # They never fall; of those that end together only the last one has no lesser one in it.
        return [(offset, end) for offset, end in enumerate(ends) if offset + 1 == len(ends) or ends[offset + 1] > end]

    def sign_at(self, number, length):
        """The sign of a stem behind so many ones."""
        text, at = self.ranked[self.stems[number][0]]
        return self.texts[text][at + length]

    def tied_behind(self, number):
        """The ascending list of the pairs (sign, stem with the places of a class's longest piece and the sign)."""
        _, _, length, kids = self.stem(number)
        return [(self.sign_at(kid, length), kid) for kid in kids]

    def tied_ahead(self, number):
        """The ascending list of the pairs (sign, stem with the places of the sign and a class's longest piece)."""
        low, behind, _, _ = self.stem(number)
        found = []
        for sign in sorted(set(self.signs_ahead[low:behind])):
            if sign != NONE:
                first = self.begun[self.signs_ahead.find(sign, low, behind)]
                last = self.begun[self.signs_ahead.rfind(sign, low, behind)]
                found.append((sign, self.numbers[(first, last + 1)]))
        return found


def _is_class(chart, thing):
    """Whether a thing is the number of a class."""
    return is_number(thing) and thing < len(chart.parts)


def charted(library, number):
    """The Chart of a library that has a class with this number."""
    chart = Chart(library)
    if not _is_class(chart, number):
        raise NoClass()
    return chart


def classes(library):
    """The list of the pairs (longest piece, how many places) of all classes."""
    chart = Chart(library)
    return [(longest, chart.many_places(number)) for number, longest in enumerate(chart.longests())]


def class_of(library, word):
    """The pair (number, offset) of the class of a piece, None for no piece."""
    low, behind = span(library, word)
    if low == behind:
        return None
    chart = Chart(library)
    return chart.homes[chart.numbers[(low, behind)]]


def grown(library, word):
    """The longest piece that is like a piece, None for no piece."""
    low, behind = span(library, word)
    if low == behind:
        return None
    chart = Chart(library)
    home, _ = chart.homes[chart.numbers[(low, behind)]]
    return chart.longest(home)


def least_pieces(library, number):
    """The ascending list of the pairs (from, behind) of the least pieces of a class in its longest one."""
    return charted(library, number).least_parts(number)


def many_pieces(library, number):
    """How many pieces are of a class."""
    chart = charted(library, number)
    longest = len(chart.longest(number))
    return sum([longest - offset - length + 1 for offset, length in enumerate(chart.least_lengths(number))])


def is_longest(library, thing):
    """Whether a thing is the longest piece of a class."""
    return is_word(thing) and grown(library, thing) == thing


def _ups(chart):
    """For each class the pair of the longest beginning of its longest piece that is of another one."""
    fathers = [chart.fathers[parts[0]] for parts in chart.parts]
    return [None if father is None else chart.homes[father] for father in fathers]


def _downs(chart):
    """For each class the pair of the longest ending of its longest piece that is of another one."""
    longests = chart.longests()
    numbers = {longest: number for number, longest in enumerate(longests)}
    # So many endings are of the class as it has stems. The next one stands also behind
    # another sign, or none: it cannot be grown, and is the longest piece of its class.
    rests = [longest[len(parts):] for longest, parts in zip(longests, chart.parts)]
    return [None if rest == "" else (numbers[rest], 0) for rest in rests]


def up(library, number):
    """The pair (class, offset) of the longest beginning of a class's longest piece that is of another one."""
    return _ups(charted(library, number))[number]


def down(library, number):
    """The pair (class, offset) of the longest ending of a class's longest piece that is of another one."""
    return _downs(charted(library, number))[number]


def up_tree(library):
    """The tuple of up of all classes."""
    return tuple(_ups(Chart(library)))


def down_tree(library):
    """The tuple of down of all classes."""
    return tuple(_downs(Chart(library)))


def _stays(chart, thens, later, number, then_number):
    """Whether the places of a class are taken to just those of a class behind an edit."""
    low, behind, _, _ = chart.stem(number)
    then_low, then_behind, _, _ = later.stem(then_number)
    if behind - low != then_behind - then_low:
        return False
    # A place whose first sign is gone is taken nowhere, and its class does not stay.
    return all([then is not None and then_low <= then < then_behind for then in thens[low:behind]])


def _all_stay(chart, library, edit):
    """For each class whether it stays behind an edit."""
    later = Chart(edited(library, edit))
    taken = all_taken(library, edit)
    ranks = {place: rank for rank, place in enumerate(later.ranked)}
    thens = [ranks.get(taken.get(place)) for place in chart.ranked]
    numbers = {longest: number for number, longest in enumerate(later.longests())}
    return [longest in numbers and _stays(chart, thens, later, number, numbers[longest])
            for number, longest in enumerate(chart.longests())]


def class_stays(library, edit, number):
    """Whether a class's longest piece is one behind an edit, too, at the places to which its own ones are taken."""
    chart = Chart(library)
    flags = _all_stay(chart, library, edit)
    if not _is_class(chart, number):
        raise NoClass()
    return flags[number]


def turned_classes(library, edit):
    """The ascending list of the numbers of the classes that do not stay."""
    return [number for number, stays in enumerate(_all_stay(Chart(library), library, edit)) if not stays]
