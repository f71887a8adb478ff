"""0.2 to 0.5: what holds for all calls of parts 4 to 6."""

import unittest

import test_general
from everypiece.desks import Desk
from everypiece.disks import Disk, read_record, record
from everypiece.errors import (BadPattern, NoAsk, NoCut, NoDisk, NoEdit, NoGaps, NoHoles, NoLine, NoLines, NoNumber,
                               NoPattern, NoText, NoWord)
from everypiece.patterns import (apart_fits, fits, fitting_pieces, is_fit, is_pattern, longest_fits, pattern_text,
                                 read_pattern)
from everypiece.pictures import drawn_blocks, drawn_edit, drawn_fits
from everypiece.saves import Vault, edit_text, read_edit, told_library
from everypiece.searches import near, near_by_stretches, nearest, searched, stretches, with_holes
from everypiece.tongues import asked
from helper import libraries, odd_things, some_edits_of

LIBRARY = test_general.LIBRARY
PATTERN = read_pattern("a{0,1}[ab]")
EDITS = (("put", 0, 1, "x y"), ("cut", 0, 1, 2), ("change", 0, 1, "x"), ("come", ""), ("go",), ("split", 0, 1),
         ("join", 0, 2), ("move", 0, 1, 2, 2, 0))


def with_part(row, index, thing):
    return row[:index] + (thing,) + row[index + 1:]


def waiting_disk():
    """A disk with one line that waits."""
    disk = Disk()
    disk.write("ab")
    return disk


def vault_of(disk):
    """What can be compared of the Vault over a disk."""
    vault = Vault(disk)
    return (vault.library(), vault.told_names(), disk.lines(), disk.synced())


def moved_to(thing):
    """What can be compared of a Vault that is moved."""
    vault = Vault(Disk())
    for text in LIBRARY.texts:
        vault.edit(("come", text))
    if isinstance(thing, Disk):
        thing = thing.copy()
    return vault.moved(thing).library()


CALLS = tuple(
    (lambda thing, function=function: function(LIBRARY, thing), errors)
    for function, errors in ((fits, NoPattern), (fitting_pieces, NoPattern), (longest_fits, NoPattern),
                             (apart_fits, NoPattern), (searched, (NoPattern, NoGaps)), (nearest, NoWord),
                             (drawn_fits, NoPattern), (drawn_edit, NoEdit), (asked, NoAsk))
) + tuple((function, errors) for function, errors in (
    (is_pattern, ()), (pattern_text, NoPattern), (read_pattern, BadPattern), (record, NoLine), (read_record, NoLine),
    (edit_text, NoEdit), (read_edit, ()), (told_library, NoLines), (drawn_blocks, NoText), (vault_of, NoDisk),
    (moved_to, NoDisk))
) + tuple(
    (lambda thing, index=index, part=part: is_pattern(with_part(PATTERN, index, with_part(PATTERN[index], part, thing))),
     ())
    for index in range(3) for part in range(len(PATTERN[index]))
) + tuple(
    (lambda thing, index=index: fits(LIBRARY, with_part(PATTERN, index, thing)), NoPattern) for index in range(3)
) + tuple(
    (lambda thing, edit=edit, index=index: edit_text(with_part(edit, index, thing)), NoEdit)
    for edit in EDITS for index in range(len(edit))
) + tuple(
    (lambda thing, index=index: is_fit(LIBRARY, PATTERN, with_part((0, 0, 2), index, thing)), ()) for index in range(3)
) + (
    (lambda thing: is_fit(LIBRARY, thing, (0, 0, 1)), NoPattern),
    (lambda thing: is_fit(LIBRARY, PATTERN, thing), ()),
    (lambda thing: near(LIBRARY, thing, 1), NoWord),
    (lambda thing: near(LIBRARY, "ab", thing), NoNumber),
    (lambda thing: near_by_stretches(LIBRARY, thing, 1), NoWord),
    (lambda thing: near_by_stretches(LIBRARY, "ab", thing), NoNumber),
    (lambda thing: with_holes(thing, ()), NoWord),
    (lambda thing: with_holes("ab", thing), NoHoles),
    (lambda thing: with_holes("ab", (thing,)), NoHoles),
    (lambda thing: stretches(thing, 1), NoWord),
    (lambda thing: stretches("ab", thing), NoNumber),
    (lambda thing: Disk().write(thing), NoLine),
    (lambda thing: waiting_disk().cut(thing), NoCut),
    (lambda thing: waiting_disk().cut((thing,)), NoCut),
    (lambda thing: waiting_disk().drop(thing), NoNumber),
    (lambda thing: told_library([thing]), NoLines),
    (lambda thing: told_library(("7:come ab", thing)), NoLines),
    (lambda thing: Vault(Disk()).edit(thing), NoEdit),
    (lambda thing: Vault(Disk()).edit(("come", thing)), NoEdit),
    (lambda thing: Desk().tell(thing), NoLine),
)


class LateOddThingsTest(test_general.OddThingsTest):
    calls = CALLS


class LateStayTest(unittest.TestCase):

    def test_judging_functions_return_flags(self):
        for thing in odd_things():
            self.assertIs(is_pattern(thing), False)
            self.assertIs(is_fit(LIBRARY, PATTERN, thing), False)
        self.assertIs(is_pattern(PATTERN), True)
        self.assertIs(is_fit(LIBRARY, PATTERN, (0, 0, 2)), True)

    def test_libraries_stay_and_equal_calls_give_equal_answers(self):
        for library in libraries():
            texts = library.texts
            for function in (searched, longest_fits, apart_fits, drawn_fits):
                pattern = read_pattern("a?")
                self.assertEqual(function(library, pattern), function(library, pattern))
            for line in ("where ab", "gap ab", "nearest ab", "repeats", "near 1 ab"):
                self.assertEqual(asked(library, line), asked(library, line))
            for edit in some_edits_of(library, 8):
                self.assertEqual(drawn_edit(library, edit), drawn_edit(library, edit))
            for text in texts:
                self.assertEqual(drawn_blocks(text), drawn_blocks(text))
            self.assertEqual(library.texts, texts)

    def test_objects_are_equal_to_nothing_of_another_kind(self):
        made = [Disk(), Vault(Disk()), Desk(), LIBRARY]
        for one in made:
            for other in odd_things() + made:
                if other is not one:
                    self.assertFalse(one == other and type(one) is not type(other))


if __name__ == "__main__":
    unittest.main()
