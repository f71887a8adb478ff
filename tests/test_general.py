"""0.2 to 0.5: what holds for all calls of parts 1 to 3, and, over the calls of another test, for others."""

import copy
import unittest

from everypiece.asks import (all_pieces, count, first_place, gap, is_gap, last_place, many_long, next_place, number_of,
                             piece_numbered, places, span, texts_with)
from everypiece.blocks import block_lot, blocks, coins, groups, levels, new_blocks
from everypiece.classes import (class_of, class_stays, classes, down, down_tree, grown, is_longest, least_pieces,
                                many_pieces, turned_classes, up, up_tree)
from everypiece.edits import edited, is_edit, leading, leading_back, led, place_ahead, place_behind
from everypiece.endings import (common, ending, endings, exchanged, fewest_moves, is_order, kept_for, lengths,
                                order_fault, rank, staying)
from everypiece.errors import (BadEdits, BadLibrary, BadWeb, NoClass, NoEdit, NoLevel, NoMachine, NoNames, NoNumber,
                               NoPhrases, NoPlace, NoRow, NoSign, NoSigns, NoState, NoText, NoWord)
from everypiece.growers import Grower
from everypiece.libraries import Library, size, stands, turned_about
from everypiece.machines import machine_fault, machine_of, tells
from everypiece.repeats import alone, common_longest, greatest_repeats, lacking, least_alone, longest_repeat
from everypiece.rows import found_behind, is_row, leads, less_than, many_ahead, row_ahead, told_back
from everypiece.runs import (borders, fewest_phrases, is_phrasing, is_run, periods, phrasing, runs, told_by)
from everypiece.shelves import Shelf
from everypiece.webs import Web, count_by, first_by, is_web, left_ties, read_by, right_ties, texts_by, web_of
from helper import libraries, nested, odd_things, some_edits_of

LIBRARY = Library(("abab", "", "ba"))
TEXTS = LIBRARY.texts
ROW = row_ahead(LIBRARY)
WEB = web_of(LIBRARY)
MACHINE = machine_of(LIBRARY)

# Calls with one odd argument, and the errors that they may raise.
CALLS = (
    (Library, BadLibrary),
    (lambda thing: Library((thing,)), BadLibrary),
    (lambda thing: stands(LIBRARY, thing, (0, 0)), NoWord),
    (lambda thing: stands(LIBRARY, "a", thing), NoPlace),
    (lambda thing: stands(LIBRARY, "a", (thing, 0)), NoPlace),
    (lambda thing: stands(LIBRARY, "a", (0, thing)), NoPlace),
    (lambda thing: is_edit(LIBRARY, thing), ()),
    (lambda thing: edited(LIBRARY, thing), NoEdit),
    (lambda thing: led(LIBRARY, thing), BadEdits),
    (lambda thing: led(LIBRARY, [thing]), BadEdits),
    (lambda thing: leading_back(LIBRARY, thing), NoEdit),
    (lambda thing: place_behind(LIBRARY, thing, (0, 0)), NoEdit),
    (lambda thing: place_ahead(LIBRARY, thing, (0, 0)), NoEdit),
    (lambda thing: place_behind(LIBRARY, ("split", 0, 1), thing), NoPlace),
    (lambda thing: place_ahead(LIBRARY, ("split", 0, 1), thing), NoPlace),
) + tuple(
    (lambda thing, form=form, index=index: edited(LIBRARY, form[:index] + (thing,) + form[index + 1:]), NoEdit)
    for form in (("put", 0, 0, "x"), ("cut", 0, 0, 1), ("change", 0, 0, "x"), ("come", "x"), ("go",), ("split", 0, 1),
                 ("join", 0, 2), ("move", 0, 0, 1, 2, 0))
    for index in range(len(form))
) + (
    (coins, NoNames),
    (lambda thing: coins((thing,)), NoNames),
    (lambda thing: coins(("a", thing)), NoNames),
    (groups, NoNames),
    (lambda thing: groups(("a", thing)), NoNames),
    (levels, NoText),
    (block_lot, NoText),
    (lambda thing: blocks(thing, 0), NoText),
    (lambda thing: blocks("abab", thing), NoLevel),
    (lambda thing: new_blocks(thing, 0, 0, "a"), NoText),
    (lambda thing: new_blocks("abab", thing, 0, "a"), NoNumber),
    (lambda thing: new_blocks("abab", 0, thing, "a"), NoNumber),
    (lambda thing: new_blocks("abab", 0, 0, thing), NoText),
    (lambda thing: ending(LIBRARY, thing), NoPlace),
    (lambda thing: rank(LIBRARY, thing), NoPlace),
    (lambda thing: common(LIBRARY, thing, (0, 0)), NoPlace),
    (lambda thing: common(LIBRARY, (0, 0), thing), NoPlace),
    (lambda thing: order_fault(LIBRARY, thing), ()),
    (lambda thing: order_fault(LIBRARY, [thing] * 6), ()),
    (lambda thing: is_order(LIBRARY, thing), ()),
    (lambda thing: is_order(LIBRARY, endings(LIBRARY)[:5] + [thing]), ()),
    (lambda thing: kept_for(LIBRARY, thing, (0, 0)), NoEdit),
    (lambda thing: kept_for(LIBRARY, ("come", "a"), thing), NoPlace),
    (lambda thing: exchanged(LIBRARY, thing), NoEdit),
    (lambda thing: staying(LIBRARY, thing), NoEdit),
    (lambda thing: fewest_moves(LIBRARY, thing), NoEdit),
    (lambda thing: Shelf(LIBRARY).rank_of(thing), NoPlace),
    (lambda thing: Shelf(LIBRARY).span_of(thing), NoWord),
    (lambda thing: Shelf(LIBRARY).do(thing), NoEdit),
    (lambda thing: next_place(LIBRARY, thing, (0, 0)), NoWord),
    (lambda thing: next_place(LIBRARY, "a", thing), NoPlace),
    (lambda thing: is_gap(LIBRARY, thing, None), NoWord),
    (lambda thing: is_gap(LIBRARY, "aa", thing), ()),
    (lambda thing: is_gap(LIBRARY, "aa", (thing, thing)), ()),
    (lambda thing: many_long(LIBRARY, thing), NoNumber),
    (lambda thing: piece_numbered(LIBRARY, thing), NoNumber),
) + tuple(
    (lambda thing, function=function: function(LIBRARY, thing), NoWord)
    for function in (places, count, first_place, last_place, texts_with, span, gap, number_of, class_of, grown)
) + (
    (is_row, ()),
    (lambda thing: is_row(ROW[:3] + (thing,) + ROW[4:]), ()),
    (told_back, NoRow),
    (lambda thing: told_back((thing,) + ROW[1:]), NoRow),
    (leads, NoRow),
    (lambda thing: many_ahead(thing, "a", 0), NoRow),
    (lambda thing: many_ahead(ROW, thing, 0), NoSign),
    (lambda thing: many_ahead(ROW, "a", thing), NoNumber),
    (lambda thing: less_than(thing, "a"), NoRow),
    (lambda thing: less_than(ROW, thing), NoSign),
    (lambda thing: found_behind(thing, "a"), NoRow),
    (lambda thing: found_behind(ROW, thing), NoWord),
    (lambda thing: is_longest(LIBRARY, thing), ()),
    (lambda thing: class_stays(LIBRARY, thing, 0), NoEdit),
    (lambda thing: class_stays(LIBRARY, ("come", "a"), thing), NoClass),
    (lambda thing: turned_classes(LIBRARY, thing), NoEdit),
    (Web, BadWeb),
    (lambda thing: Web((thing,)), BadWeb),
    (lambda thing: Web(WEB.rows[:1] + (thing,) + WEB.rows[2:]), BadWeb),
    (lambda thing: is_web(LIBRARY, thing), ()),
    (lambda thing: tells(thing, "ab"), NoMachine),
    (lambda thing: tells(MACHINE[:1] + (thing,) + MACHINE[2:], "ab"), NoMachine),
    (lambda thing: tells(MACHINE, thing), NoText),
    (lambda thing: machine_fault(LIBRARY, thing), NoMachine),
    (lambda thing: machine_fault(LIBRARY, (thing,)), NoMachine),
    (lambda thing: machine_fault(LIBRARY, ((True, thing),)), NoMachine),
    (lambda thing: Grower().put(thing), NoSign),
    (lambda thing: Grower().state_of(thing), NoText),
    (lambda thing: common_longest(LIBRARY, thing), NoNumber),
    (lambda thing: least_alone(LIBRARY, thing), NoPlace),
    (lambda thing: lacking(LIBRARY, thing), NoSigns),
    (lambda thing: is_run(thing, (0, 2, 1)), NoText),
    (lambda thing: is_run("aa", thing), ()),
    (lambda thing: is_run("aa", (0, 2, thing)), ()),
    (told_by, NoPhrases),
    (lambda thing: told_by(("a", thing)), NoPhrases),
    (lambda thing: is_phrasing(thing, ("a",)), NoText),
    (lambda thing: is_phrasing("ab", thing), ()),
    (lambda thing: is_phrasing("aa", ("a", thing)), ()),
) + tuple(
    (lambda thing, part=part: Web((WEB.rows[0][:part] + (thing,) + WEB.rows[0][part + 1:],) + WEB.rows[1:]), BadWeb)
    for part in range(5)
) + tuple(
    (lambda thing, function=function: function(WEB, thing), NoWord) for function in (read_by, count_by, first_by)
) + tuple(
    (lambda thing, function=function: function(LIBRARY, thing), NoClass)
    for function in (least_pieces, many_pieces, up, down, right_ties, left_ties)
) + tuple(
    (lambda thing, name=name: getattr(Grower(), name)(thing), NoState) for name in ("ties", "link", "ends")
) + tuple((function, NoText) for function in (periods, borders, runs, phrasing, fewest_phrases))


def outcome(call, errors, thing):
    """What a call returns or raises; any error but those that it may raise goes on."""
    try:
        result = call(thing)
    except errors as error:
        return (type(error), vars(error))
    return result


class OddThingsTest(unittest.TestCase):
    calls = CALLS

    def test_no_other_error_is_raised_because_of_what_a_thing_is(self):
        for call, errors in self.calls:
            for thing in odd_things():
                outcome(call, errors, thing)
                self.assertEqual(LIBRARY.texts, TEXTS)

    def test_equal_calls_give_equal_answers(self):
        for call, errors in self.calls:
            for thing in odd_things():
                self.assertEqual(outcome(call, errors, thing), outcome(call, errors, thing))

    def test_arguments_are_not_changed(self):
        for call, errors in self.calls:
            for thing in ([], [0, 0], ["go"], [("come", ""), ["go"]], {"a": [1]}, ("put", [0], 0, "x"), ([0], {1: 2}),
                          nested(40, list), list(range(19999))):
                before = copy.deepcopy(thing)
                outcome(call, errors, thing)
                self.assertEqual(thing, before)

    def test_iterators_are_not_used_up(self):
        for call, errors in self.calls:
            thing = iter([0, 1])
            outcome(call, errors, thing)
            self.assertEqual(list(thing), [0, 1])

    def test_things_may_be_nested_deep(self):
        for call, errors in self.calls:
            for kind in (list, tuple, dict):
                outcome(call, errors, nested(40, kind))


class JudgingTest(unittest.TestCase):

    def test_judging_functions_return_flags(self):
        for thing in odd_things() + [("come", "")]:
            self.assertIs(type(is_edit(LIBRARY, thing)), bool)
            self.assertIs(type(is_order(LIBRARY, thing)), bool)
            self.assertIs(type(is_gap(LIBRARY, "aa", thing)), bool)
            for flag in (is_row(thing), is_longest(LIBRARY, thing), is_web(LIBRARY, thing), is_run("abab", thing),
                         is_phrasing("abab", thing)):
                self.assertIs(type(flag), bool)
        for flag in (is_row(ROW), is_longest(LIBRARY, "ab"), is_web(LIBRARY, WEB), is_run("abab", (0, 4, 2)),
                     is_phrasing("abab", ("a", "b", (0, 2))), tells(MACHINE, "ab"),
                     class_stays(LIBRARY, ("come", ""), 0)):
            self.assertIs(flag, True)
        self.assertIs(type(stands(LIBRARY, "a", (0, 0))), bool)


class StayTest(unittest.TestCase):

    def test_libraries_stay_and_equal_calls_give_equal_answers(self):
        for library in libraries():
            texts = library.texts
            for edit in some_edits_of(library, 30):
                self.assertEqual(edited(library, edit), edited(library, edit))
                self.assertEqual(leading_back(library, edit), leading_back(library, edit))
                self.assertEqual(staying(library, edit), staying(library, edit))
                shelf = Shelf(library)
                shelf.do(edit)
                self.assertEqual(shelf.library(), edited(library, edit))
                self.assertEqual(library.texts, texts)
            self.assertEqual(size(library), size(library))
            self.assertEqual(turned_about(library), turned_about(library))
            self.assertEqual(leading(library, LIBRARY), leading(library, LIBRARY))
            for function in (endings, lengths, all_pieces, row_ahead, classes, longest_repeat, alone):
                self.assertEqual(function(library), function(library))
            for function in (up_tree, down_tree, web_of, machine_of, greatest_repeats,
                             lambda other: texts_by(web_of(other))):
                if size(library) < 100 or library.texts == ("ab" * 1000,):
                    self.assertEqual(function(library), function(library))
            for function in (places, span, gap, number_of, class_of, grown, lacking):
                self.assertEqual(function(library, "ab"), function(library, "ab"))
            self.assertEqual(library.texts, texts)


if __name__ == "__main__":
    unittest.main()
