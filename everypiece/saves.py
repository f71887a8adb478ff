"""Saves: edits as texts, key saves of all blocks, and a library that lasts on a disk (10.2 to 10.4)."""

from everypiece.blocks import levels
from everypiece.disks import Disk, read_record, record
from everypiece.edits import FORMS, edited, has_form
from everypiece.errors import BadLibrary, NoDisk, NoEdit, NoLines
from everypiece.kinds import is_signs, read_line
from everypiece.libraries import MOST_SIGNS, Library

NUMBERS = 10000

# The words with which the contents of lines begin.
BLOCK = "block"
KEY = "key"
EDIT = "edit "

# The part that tells the empty text.
EMPTY = "-"


def _has_text(thing):
    """Whether a thing is a tuple that some edit's text tells."""
    if not has_form(thing):
        return False
    if thing[0] == "join" and thing[1] == thing[2]:
        return False
    return all([part < NUMBERS for part in thing[1:] if isinstance(part, int)])


def edit_text(edit):
    """The text of an edit."""
    if not _has_text(edit):
        raise NoEdit()
    return " ".join([str(part) for part in edit])


def read_edit(text):
    """The tuple of which this is the text, None for any other thing."""
    edit = read_line(text, dict(FORMS))
    return edit if _has_text(edit) else None


def _read_parts(signs, names):
    """The list of what parts tell, a blank ahead of each; None in the place of what is no part."""
    found = []
    at = 0
    while at < len(signs):
        # The sign behind a "'" may be a blank, so the parts cannot be split at blanks.
        if signs[at:at + 2] == " '" and at + 2 < len(signs):
            found.append(signs[at + 2])
            at += 3
        else:
            behind = signs.find(" ", at + 1)
            behind = len(signs) if behind < 0 else behind
            found.append(names.get(signs[at + 1:behind]) if signs[at] == " " else None)
            at = behind
    return found


def _block_name(contents, names):
    """The name that a block line of these contents tells, None for no block line."""
    if not contents.startswith(BLOCK):
        return None
    parts = _read_parts(contents[len(BLOCK):], names)
    if len(parts) == 0 or None in parts or "" in parts:
        return None
    return "".join(parts) if sum([len(part) for part in parts]) <= MOST_SIGNS else None


def _key_library(contents, names):
    """The Library that a key line of these contents tells, None for no key line."""
    if not contents.startswith(KEY):
        return None
    try:
        return Library(tuple(_read_parts(contents[len(KEY):], names)))
    except BadLibrary:
        return None


def _edited_library(contents, library):
    """The Library behind the edit that a line of these contents tells, None for no edit."""
    if not contents.startswith(EDIT):
        return None
    try:
        return edited(library, read_edit(contents[len(EDIT):]))
    except NoEdit:
        return None


def _gone_through(lines):
    """The triple (library, many, names) of what lines tell, up to the first that tells nothing.

    Names are a dict from each part that is no sign, as it is written, to what it tells.
    """
    library = Library(())
    names = {EMPTY: ""}
    many = 0
    while many < len(lines):
        contents = read_record(lines[many])
        if contents is None:
            break
        name = _block_name(contents, names)
        if name is not None:
            names[str(many)] = name
        else:
            later = _key_library(contents, names)
            if later is None:
                later = _edited_library(contents, library)
            if later is None:
                break
            library = later
        many += 1
    return (library, many, names)


def told_library(lines):
    """The pair of the Library that lines tell, and how many lines are ahead of the first that tells nothing."""
    if not isinstance(lines, (list, tuple)) or not all([is_signs(line) for line in lines]):
        raise NoLines()
    library, many, _ = _gone_through(lines)
    return (library, many)


def _blocks_made(text):
    """Level by level from 1 on, for each block of a text the list of the names of its parts."""
    found = []
    rows = levels(text)
    for below, row in zip(rows, rows[1:]):
        begins = {begin: True for begin in row}
        for begin, behind in zip(below, below[1:] + (len(text),)):
            if begin in begins:
                found.append([])
            found[-1].append(text[begin:behind])
    return found


class Vault:
    """A library that lasts on a disk, however often the disk is cut."""

    def __init__(self, disk):
        if not isinstance(disk, Disk):
            raise NoDisk()
        library, many, names = _gone_through(disk.lines())
        disk.drop(many)
        disk.sync()
        self._disk = disk
        self._library = library
        # From each name that a block line tells to the part that tells it.
        self._parts = {}
        for part, name in names.items():
            self._parts.setdefault(name, part)

    def library(self):
        """The Library as it is now."""
        return self._library

    def edit(self, edit):
        """Does an edit, and writes its line, which waits; returns the line's number."""
        later = edited(self._library, edit)
        number = self._disk.write(record(EDIT + edit_text(edit)))
        self._library = later
        return number

    def sync(self):
        """Lets no line of the disk wait any more; returns how many did."""
        return self._disk.sync()

    def _part(self, name):
        """The part that tells a name, or the empty text."""
        return "'" + name if len(name) == 1 else self._parts[name]

    def _save_block(self, parts):
        """Writes the line of a block, if its name needs one; returns how many lines were written."""
        name = "".join(parts)
        if len(name) == 1 or name in self._parts:
            return 0
        contents = BLOCK + "".join([" " + self._part(part) for part in parts])
        self._parts[name] = str(self._disk.write(record(contents)))
        return 1

    def save(self):
        """Writes a key save, behind which no line waits; returns how many block lines were written."""
        many = 0
        for text in self._library.texts:
            for parts in _blocks_made(text):
                many += self._save_block(parts)
        self._disk.write(record(KEY + "".join([" " + self._part(text) for text in self._library.texts])))
        self._disk.sync()
        return many

    def told_names(self):
        """The ascending list of the names that block lines tell."""
        return sorted([name for name in self._parts if name != ""])

    def moved(self, disk):
        """A Vault over another Disk without lines, on which a key save is written."""
        if not isinstance(disk, Disk) or disk == self._disk or len(disk.lines()) > 0:
            raise NoDisk()
        other = Vault(disk)
        other._library = self._library
        other.save()
        return other
