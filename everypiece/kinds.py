"""The helper of the package: what kind a thing is (0.2, 1.1), and lines of words and parts (10.2, 11)."""

MOST_FIGURES = 9
MOST_LETTERS = 8


def is_number(thing):
    """Whether a thing is an integer from 0 on; a flag is none."""
    return isinstance(thing, int) and not isinstance(thing, bool) and thing >= 0


def is_signs(thing):
    """Whether a thing is a string of signs, perhaps empty."""
    # Of the ASCII characters Python prints just those from the blank to the tilde.
    return isinstance(thing, str) and thing.isascii() and thing.isprintable()


def is_word(thing):
    """Whether a thing is a string of one sign or more."""
    return is_signs(thing) and len(thing) > 0


def is_sign(thing):
    """Whether a thing is a word of one sign."""
    return is_signs(thing) and len(thing) == 1


def is_tuple(thing, many):
    """Whether a thing is a tuple of so many."""
    return isinstance(thing, tuple) and len(thing) == many


def _is_name(signs):
    """Whether signs are 1 to 8 letters from a to z."""
    return signs.isalpha() and signs.islower() and len(signs) <= MOST_LETTERS


def _read_number(signs):
    """The number that signs tell in decimal figures without needless zeros, None if none or too many."""
    if not signs.isdigit() or len(signs) > MOST_FIGURES or str(int(signs)) != signs:
        return None
    return int(signs)


def _read_part(kind, signs):
    """The part of this kind that signs tell, None if none."""
    if kind == "number" or kind == "many":
        return _read_number(signs)
    if kind == "name" and not _is_name(signs) or kind == "word" and signs == "":
        return None
    return signs


def read_line(line, forms):
    """The tuple of a line's word and its parts, None for what has none of the forms.

    Forms are a dict from each word to the kinds of the parts behind it, a blank ahead
    of each; the last part is all that is left.
    """
    if not is_signs(line):
        return None
    word = line.partition(" ")[0]
    kinds = forms.get(word, ())
    parts = line.split(" ", len(kinds))
    if word not in forms or parts[0] != word or len(parts) != len(kinds) + 1:
        return None
    told = [_read_part(kind, signs) for kind, signs in zip(kinds, parts[1:])]
    return None if None in told else (word,) + tuple(told)
