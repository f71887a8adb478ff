"""What lines ask of a library, and the answers as strings (11.1)."""

from everypiece.asks import (all_pieces, count, first_place, gap, last_place, many_long, next_place, number_of,
                             piece_numbered, places, span, texts_with)
from everypiece.errors import NoAsk
from everypiece.kinds import read_line
from everypiece.patterns import fits, fitting_pieces, read_pattern
from everypiece.repeats import common_longest, greatest_repeats, least_alone, longest_repeat
from everypiece.searches import near, nearest

# For each line its word, and the kinds of what stands behind it.
FORMS = {
    "count": ("word",),
    "first": ("word",),
    "last": ("word",),
    "next": ("number", "number", "word"),
    "where": ("word",),
    "texts": ("word",),
    "span": ("word",),
    "gap": ("word",),
    "number": ("word",),
    "pieces": (),
    "piece": ("number",),
    "long": ("number",),
    "repeat": (),
    "repeats": (),
    "common": ("number",),
    "alone": ("number", "number"),
    "fits": ("word",),
    "holes": ("word",),
    "near": ("number", "word"),
    "nearest": ("word",),
}


def _told(thing):
    """A number or a piece as it is told, or that there is none."""
    return "none" if thing is None else str(thing)


def _told_all(told):
    """Several things that are told, or that there is none."""
    return " ".join(told) if told else "none"


def _place(place):
    """A place as it is told, or that there is none."""
    return "none" if place is None else f"{place[0]}:{place[1]}"


def _gap(pair):
    """A gap as it is told, or that there is none."""
    return "none" if pair is None else _told_all(["-" if place is None else _place(place) for place in pair])


def _nearest(triple):
    """How many signs are wrong, and the place, as they are told, or that there is none."""
    return "none" if triple is None else f"{triple[0]} {_place(triple[1:])}"


def _of_places(library, word, signs):
    """What a line of this word and a WORD asks, where places are told; None for another line."""
    if word == "first":
        return _place(first_place(library, signs))
    if word == "last":
        return _place(last_place(library, signs))
    if word == "where":
        return _told_all([_place(place) for place in places(library, signs)])
    if word == "gap":
        return _gap(gap(library, signs))
    if word == "nearest":
        return _nearest(nearest(library, signs))
    return None


def _of_signs(library, word, signs):
    """What a line of this word and a WORD or a PATTERN asks, where numbers are told."""
    if word == "count":
        return _told(count(library, signs))
    if word == "texts":
        return _told_all([str(text) for text in texts_with(library, signs)])
    if word == "span":
        return _told_all([str(number) for number in span(library, signs)])
    if word == "number":
        return _told(number_of(library, signs))
    if word == "fits":
        return _told(len(fits(library, read_pattern(signs))))
    return _told(len(fitting_pieces(library, read_pattern(signs))))


def _of_numbers(library, word, number):
    """What a line of this word and a number asks."""
    if word == "piece":
        return _told(piece_numbered(library, number))
    if word == "long":
        return _told(many_long(library, number))
    return _told(common_longest(library, number))


def _of_all(library, word):
    """What a line of this word alone asks."""
    if word == "pieces":
        return _told(all_pieces(library))
    if word == "repeat":
        return _told(longest_repeat(library))
    return _told(len(greatest_repeats(library)))


def asked(library, line):
    """What a line asks of a library."""
    ask = read_line(line, dict(FORMS))
    if ask is None:
        raise NoAsk()
    word = ask[0]
    if word == "next":
        return _place(next_place(library, ask[3], ask[1:3]))
    if word == "alone":
        return _told(least_alone(library, ask[1:]))
    if word == "near":
        return _told(len(near(library, ask[2], ask[1])))
    if FORMS[word] == ():
        return _of_all(library, word)
    if FORMS[word] == ("number",):
        return _of_numbers(library, word, ask[1])
    told = _of_places(library, word, ask[1])
    return _of_signs(library, word, ask[1]) if told is None else told
