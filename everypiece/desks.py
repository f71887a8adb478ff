"""A desk that works by lines, with a disk and a Vault under each name (11.3)."""

from everypiece.disks import Disk
from everypiece.edits import leading_back
from everypiece.errors import NoLine, NoName, NoText, NothingDone
from everypiece.kinds import read_line
from everypiece.libraries import size
from everypiece.patterns import read_pattern
from everypiece.pictures import drawn_blocks, drawn_fits
from everypiece.saves import Vault, read_edit
from everypiece.tongues import asked

# For each line its word, and the kinds of what stands behind it.
FORMS = {
    "new": ("name",),
    "edit": ("name", "signs"),
    "text": ("name", "number"),
    "ask": ("name", "signs"),
    "sync": ("name",),
    "save": ("name",),
    "lines": ("name",),
    "cut": ("name", "number"),
    "move": ("name", "name"),
    "back": ("name",),
    "blocks": ("name", "number"),
    "draw": ("name", "word"),
}


def _text(library, number):
    """The text of a library with this number."""
    if number >= len(library.texts):
        raise NoText()
    return library.texts[number]


def _in_one_row(picture):
    """A picture, with a bar for each line feed."""
    return picture.replace("\n", "|")


def _first_signs(lines, many):
    """For each line how many of its signs are among the first so many of all."""
    found = []
    for line in lines:
        found.append(min(len(line), many))
        many -= found[-1]
    return tuple(found)


def _asked_of(library, line):
    """What a line that changes nothing tells of a library, None for another line."""
    if line[0] == "text":
        return _text(library, line[2])
    if line[0] == "ask":
        return asked(library, line[2])
    if line[0] == "blocks":
        return _in_one_row(drawn_blocks(_text(library, line[2])))
    if line[0] == "draw":
        return _in_one_row(drawn_fits(library, read_pattern(line[2])))
    return None


class Desk:
    """Keeps, under each name, a disk, a Vault over it, and the edits that can be taken back."""

    def __init__(self):
        self._disks = {}
        self._vaults = {}
        # For each edit that can be taken back, the edits that lead back.
        self._steps = {}

    def _keep(self, name, disk, vault):
        """Keeps a disk and a Vault over it under a name; there is nothing to take back yet."""
        self._disks[name] = disk
        self._vaults[name] = vault
        self._steps[name] = []

    def _edit(self, name, text):
        """Does an edit of this text; returns how many signs the library has then."""
        vault = self._vaults[name]
        edit = read_edit(text)
        step = leading_back(vault.library(), edit)
        vault.edit(edit)
        self._steps[name].append(step)
        return size(vault.library())

    def _back(self, name):
        """Takes back the last edit; returns how many can be taken back still."""
        if len(self._steps[name]) == 0:
            raise NothingDone()
        step = self._steps[name].pop()
        for edit in step:
            self._vaults[name].edit(edit)
        return len(self._steps[name])

    def _cut(self, name, many):
        """Cuts a disk so that the first so many of all signs that wait are there; returns how many lines there are."""
        disk = self._disks[name]
        disk.cut(_first_signs(disk.lines()[disk.synced():], many))
        self._keep(name, disk, Vault(disk))
        return len(disk.lines())

    def _do(self, line):
        """Does a line that is about a disk and its Vault alone; returns a number."""
        word, name = line[:2]
        if word == "edit":
            return self._edit(name, line[2])
        if word == "back":
            return self._back(name)
        if word == "cut":
            return self._cut(name, line[2])
        if word == "sync":
            return self._vaults[name].sync()
        if word == "save":
            return self._vaults[name].save()
        return len(self._disks[name].lines())

    def tell(self, line):
        """Does what a line says; returns what it tells."""
        told = read_line(line, dict(FORMS))
        if told is None:
            raise NoLine()
        word, name = told[:2]
        if word != "new" and name not in self._vaults:
            raise NoName(name)
        if word == "new" or word == "move":
            disk = Disk()
            self._keep(told[-1], disk, Vault(disk) if word == "new" else self._vaults[name].moved(disk))
            return "ok"
        answer = _asked_of(self._vaults[name].library(), told)
        return str(self._do(told)) if answer is None else answer
