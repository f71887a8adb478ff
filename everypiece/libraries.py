"""Libraries: texts, their places, and the words that stand in them (1.1)."""

from everypiece.errors import BadLibrary, NoPlace, NoWord
from everypiece.kinds import is_number, is_signs, is_word

MOST_TEXTS = 8
MOST_SIGNS = 2000


class Library:
    """A tuple of at most 8 texts, of at most 2000 signs in all; it never changes."""

    def __init__(self, texts):
        if not isinstance(texts, tuple) or len(texts) > MOST_TEXTS:
            raise BadLibrary(-1)
        for part, text in enumerate(texts):
            if not is_signs(text):
                raise BadLibrary(part)
        if sum([len(text) for text in texts]) > MOST_SIGNS:
            raise BadLibrary("long")
        self.texts = texts

    def __eq__(self, other):
        return isinstance(other, Library) and self.texts == other.texts


def size(library):
    """How many signs a library has."""
    return sum([len(text) for text in library.texts])


def turned_about(library):
    """The Library of the texts, each read from its end."""
    return Library(tuple([text[::-1] for text in library.texts]))


def is_text(thing):
    """Whether a thing is a string of at most 2000 signs."""
    return is_signs(thing) and len(thing) <= MOST_SIGNS


def is_place(library, thing):
    """Whether a thing is a pair of the number of a text and a number below its length."""
    if not isinstance(thing, tuple) or len(thing) != 2:
        return False
    text, at = thing
    if not is_number(text) or not is_number(at):
        return False
    return text < len(library.texts) and at < len(library.texts[text])


def all_places(library):
    """The ascending list of all places of a library."""
    return [(number, at) for number, text in enumerate(library.texts) for at in range(len(text))]


def stands(library, word, place):
    """Whether the signs of the text from a place on begin with a word."""
    if not is_word(word):
        raise NoWord()
    if not is_place(library, place):
        raise NoPlace()
    text, at = place
    return library.texts[text][at:at + len(word)] == word
