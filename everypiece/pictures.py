"""Pictures of texts: their blocks, the fits of a pattern, and what an edit does (11.2)."""

from everypiece.blocks import levels
from everypiece.edits import all_taken, edited
from everypiece.patterns import longest_fits


def _drawn(rows):
    """The picture of rows, each closed by a line feed."""
    return "".join([row + "\n" for row in rows])


def _row(text, marks):
    """A row as long as a text, with marks at their places."""
    return "".join([marks.get(at, ".") for at in range(len(text))])


def drawn_blocks(text):
    """The text, and for each level from 1 on a row with a mark where a block begins."""
    rows = levels(text)[1:]
    return _drawn([text] + [_row(text, {at: "|" for at in row}) for row in rows])


def drawn_fits(library, pattern):
    """Each text, and below it where fits of a pattern begin, and their other places."""
    marks = [{} for _ in library.texts]
    # All places of a shorter fit are places of the longest one from there.
    for text, at, many in longest_fits(library, pattern):
        marks[text][at] = "^"
        for other in range(at + 1, at + many):
            marks[text].setdefault(other, "-")
    rows = []
    for number, text in enumerate(library.texts):
        rows.extend([text, _row(text, marks[number])])
    return _drawn(rows)


def drawn_edit(library, edit):
    """Each text that an edit makes, and below it which signs are new, stayed at their place, or came from another."""
    sources = {then: place for place, then in all_taken(library, edit).items()}
    rows = []
    for number, text in enumerate(edited(library, edit).texts):
        marks = {}
        for at in range(len(text)):
            source = sources.get((number, at))
            marks[at] = "+" if source is None else "=" if source == (number, at) else ">"
        rows.extend([text, _row(text, marks)])
    return _drawn(rows)
