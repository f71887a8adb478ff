"""The helper of the package: what kind a thing is (0.2, 1.1)."""


def is_number(thing):
    """Whether a thing is an integer from 0 on; a flag is none."""
    return isinstance(thing, int) and not isinstance(thing, bool) and thing >= 0


def is_signs(thing):
    """Whether a thing is a string of signs, perhaps empty."""
    # Of the ASCII characters Python prints just those from the blank to the tilde.
    return isinstance(thing, str) and thing.isascii() and thing.isprintable()


def is_word(thing):
    """Whether a thing is a string of one sign or more."""
    return is_signs(thing) and len(thing) > 0


def is_sign(thing):
    """Whether a thing is a word of one sign."""
    return is_signs(thing) and len(thing) == 1


def is_tuple(thing, many):
    """Whether a thing is a tuple of so many."""
    return isinstance(thing, tuple) and len(thing) == many
