"""A disk of lines, the power of which may be cut, and records (10.1)."""

from everypiece.errors import NoCut, NoLine, NoNumber
from everypiece.kinds import is_number, is_signs


def _cuts_all(thing, lines):
    """Whether a thing is a tuple with, for each line, a number of its first signs."""
    if not isinstance(thing, tuple) or len(thing) != len(lines):
        return False
    return all([is_number(many) and many <= len(line) for many, line in zip(thing, lines)])


class Disk:
    """Holds lines; those from some number on wait, and may lose their last signs when the power is cut."""

    def __init__(self):
        self._lines = []
        self._synced = 0

    def write(self, line):
        """Writes a line behind the others, where it waits; returns its number."""
        if not is_signs(line):
            raise NoLine()
        self._lines.append(line)
        return len(self._lines) - 1

    def sync(self):
        """Lets no line wait any more; returns how many did."""
        many = len(self._lines) - self._synced
        self._synced = len(self._lines)
        return many

    def lines(self):
        """The list of all lines."""
        return list(self._lines)

    def synced(self):
        """How many lines, from the first on, do not wait."""
        return self._synced

    def cut(self, kept):
        """Cuts the power: of each line that waits so many of its first signs are there; none waits then."""
        waiting = self._lines[self._synced:]
        if not _cuts_all(kept, waiting):
            raise NoCut()
        self._lines[self._synced:] = [line[:many] for line, many in zip(waiting, kept)]
        self._synced = len(self._lines)

    def drop(self, number):
        """Lets go of the lines from this number on."""
        if not is_number(number) or number > len(self._lines):
            raise NoNumber()
        self._lines = self._lines[:number]
        self._synced = min(self._synced, number)

    def copy(self):
        """Another Disk that goes on apart."""
        other = Disk()
        other._lines = list(self._lines)
        other._synced = self._synced
        return other


def record(line):
    """The record of a string of signs."""
    if not is_signs(line):
        raise NoLine()
    return str(len(line)) + ":" + line


def read_record(line):
    """The contents of a record, None for what is no record."""
    if not is_signs(line):
        raise NoLine()
    # No number is made of the figures: they may be more than Python reads one from.
    contents = line.partition(":")[2]
    return contents if record(contents) == line else None
