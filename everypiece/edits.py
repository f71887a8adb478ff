"""Edits of libraries: what is one, what it makes, and where it takes signs (1.2, 1.3)."""

from everypiece.errors import BadEdits, BadLibrary, NoEdit, NoPlace
from everypiece.kinds import is_number, is_signs, is_word
from everypiece.libraries import Library, all_places, is_place

# The kinds of the parts that stand behind the word of an edit.
FORMS = {
    "put": ("number", "number", "word"),
    "cut": ("number", "number", "many"),
    "change": ("number", "number", "word"),
    "come": ("signs",),
    "go": (),
    "split": ("number", "number"),
    "join": ("number", "number"),
    "move": ("number", "number", "many", "number", "number"),
}


def _is_part(kind, thing):
    """Whether a thing is a part of this kind."""
    if kind == "number":
        return is_number(thing)
    if kind == "many":
        return is_number(thing) and thing > 0
    if kind == "word":
        return is_word(thing)
    return is_signs(thing)


def has_form(thing):
    """Whether a thing is a tuple of a word of an edit and parts of its kinds."""
    if not isinstance(thing, tuple) or len(thing) == 0:
        return False
    word = thing[0]
    if not isinstance(word, str) or word not in FORMS:
        return False
    kinds = FORMS[word]
    if len(thing) != len(kinds) + 1:
        return False
    return all([_is_part(kind, part) for kind, part in zip(kinds, thing[1:])])


# Each of the next functions tells the texts behind an edit that has its form,
# perhaps too many or too long, and None if the texts have no room for it.

def _with_text(texts, number, text):
    """The texts, with another one in the place of the one with this number."""
    return texts[:number] + (text,) + texts[number + 1:]


def _texts_put(texts, edit):
    _, text, at, signs = edit
    if text >= len(texts) or at > len(texts[text]):
        return None
    return _with_text(texts, text, texts[text][:at] + signs + texts[text][at:])


def _texts_cut(texts, edit):
    _, text, at, many = edit
    if text >= len(texts) or at + many > len(texts[text]):
        return None
    return _with_text(texts, text, texts[text][:at] + texts[text][at + many:])


def _texts_changed(texts, edit):
    _, text, at, signs = edit
    behind = at + len(signs)
    if text >= len(texts) or behind > len(texts[text]):
        return None
    return _with_text(texts, text, texts[text][:at] + signs + texts[text][behind:])


def _texts_come(texts, edit):
    return texts + (edit[1],)


def _texts_gone(texts, _):
    if len(texts) == 0 or texts[-1] != "":
        return None
    return texts[:-1]


def _texts_split(texts, edit):
    _, text, at = edit
    if text >= len(texts) or at > len(texts[text]):
        return None
    return _with_text(texts, text, texts[text][:at]) + (texts[text][at:],)


def _texts_joined(texts, edit):
    _, text, other = edit
    if text >= len(texts) or other >= len(texts) or text == other:
        return None
    emptied = _with_text(texts, other, "")
    return _with_text(emptied, text, texts[text] + texts[other])


def _texts_moved(texts, edit):
    _, text, at, many, other, place = edit
    left = _texts_cut(texts, ("cut", text, at, many))
    if left is None:
        return None
    return _texts_put(left, ("put", other, place, texts[text][at:at + many]))


MAKERS = {
    "put": _texts_put,
    "cut": _texts_cut,
    "change": _texts_changed,
    "come": _texts_come,
    "go": _texts_gone,
    "split": _texts_split,
    "join": _texts_joined,
    "move": _texts_moved,
}


def _library_behind(library, thing):
    """The Library that an edit makes of this one, None if a thing is no edit of it."""
    if not has_form(thing):
        return None
    maker = MAKERS[thing[0]]
    texts = maker(library.texts, thing)
    if texts is None:
        return None
    try:
        return Library(texts)
    except BadLibrary:
        return None


def is_edit(library, thing):
    """Whether a thing is an edit of a library, and what it leads to is a library."""
    return _library_behind(library, thing) is not None


def edited(library, edit):
    """The Library behind an edit."""
    behind = _library_behind(library, edit)
    if behind is None:
        raise NoEdit()
    return behind


def led(library, edits):
    """The Library behind a list or tuple of edits, one behind the other."""
    if not isinstance(edits, (list, tuple)):
        raise BadEdits(-1)
    behind = library
    for index, edit in enumerate(edits):
        behind = _library_behind(behind, edit)
        if behind is None:
            raise BadEdits(index)
    return behind


def _steps(texts, edit):
    """What an edit does with signs: a list of STEPS (many, source, target).

    In each so many signs are taken out from the place source on, and put in at
    the place target as the text is then; None is where gone signs go to, and
    where new ones come from.
    """
    word = edit[0]
    if word == "go":
        return []
    if word == "come":
        return [(len(edit[1]), None, (len(texts), 0))]
    if word == "join":
        _, text, other = edit
        return [(len(texts[other]), (other, 0), (text, len(texts[text])))]
    place = edit[1:3]
    if word == "split":
        text, at = place
        return [(len(texts[text]) - at, place, (len(texts), 0))]
    if word == "move":
        return [(edit[3], place, edit[4:6])]
    if word == "cut":
        return [(edit[3], place, None)]
    if word == "put":
        return [(len(edit[3]), None, place)]
    # A sign that is changed is gone, even where the new one is like it.
    many = len(edit[3])
    return [(many, place, None), (many, None, place)]


def _step_back(texts, step):
    """The edit that takes back a step that was done with these texts."""
    many, source, target = step
    if source is None:
        return ("cut", target[0], target[1], many)
    text, at = source
    if target is None:
        return ("put", text, at, texts[text][at:at + many])
    return ("move", target[0], target[1], many, text, at)


def leading_back(library, edit):
    """At most two edits that lead from what an edit makes to the library."""
    if not is_edit(library, edit):
        raise NoEdit()
    texts = library.texts
    word = edit[0]
    if word == "change":
        _, text, at, signs = edit
        return (("change", text, at, texts[text][at:at + len(signs)]),)
    back = [_step_back(texts, step) for step in _steps(texts, edit) if step[0] > 0]
    if word == "go":
        back.append(("come", ""))
    if word == "come" or word == "split":
        back.append(("go",))
    return tuple(back)


def leading(library, other):
    """Edits that lead from a library to the other one, at most two for each text."""
    here = library.texts
    there = other.texts
    both = min(len(here), len(there))
    unlike = [number for number in range(both) if here[number] != there[number]]
    emptied = unlike + list(range(both, len(here)))
    # All cuts come first: so there are never more signs than in either library.
    cuts = [("cut", number, 0, len(here[number])) for number in emptied if here[number] != ""]
    goes = [("go",)] * (len(here) - both)
    puts = [("put", number, 0, there[number]) for number in unlike if there[number] != ""]
    comes = [("come", text) for text in there[both:]]
    return tuple(cuts + goes + puts + comes)


def _taken_by(step, place):
    """Where a step takes the sign at a place, None if nowhere."""
    many, source, target = step
    text, at = place
    if source is not None and text == source[0] and at >= source[1]:
        within = at - source[1]
        if within < many:
            return None if target is None else (target[0], target[1] + within)
        at -= many
    if target is not None and text == target[0] and at >= target[1]:
        at += many
    return (text, at)


def _taken_on(steps, place):
    """Where steps, one behind the other, take the sign at a place, None if nowhere."""
    for step in steps:
        place = _taken_by(step, place)
        if place is None:
            return None
    return place


def place_behind(library, edit, place):
    """Where the sign at a place is behind an edit, None if it is gone."""
    if not is_edit(library, edit):
        raise NoEdit()
    if not is_place(library, place):
        raise NoPlace()
    return _taken_on(_steps(library.texts, edit), place)


def all_taken(library, edit):
    """A dict from the place of each sign that an edit does not take out to where it takes it."""
    if not is_edit(library, edit):
        raise NoEdit()
    steps = _steps(library.texts, edit)
    taken = {}
    for place in all_places(library):
        then = _taken_on(steps, place)
        if then is not None:
            taken[place] = then
    return taken


def place_ahead(library, edit, place):
    """Where the sign at a place behind an edit was ahead of it, None if it is new."""
    if not is_place(edited(library, edit), place):
        raise NoPlace()
    steps = _steps(library.texts, edit)
    turned = [(many, target, source) for many, source, target in reversed(steps)]
    return _taken_on(turned, place)
