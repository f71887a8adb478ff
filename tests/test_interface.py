"""Each name of the interface that has landed stands, under its own def or class, in its own file."""

import ast
import importlib
import inspect
import os
import unittest

PACKAGE = os.path.join(os.path.dirname(os.path.dirname(os.path.abspath(__file__))), "everypiece")

# For each file its functions, with how many arguments they take, and its classes, with their methods.
FUNCTIONS = {
    "libraries": {"size": 1, "turned_about": 1, "stands": 3},
    "edits": {"is_edit": 2, "edited": 2, "led": 2, "leading_back": 2, "leading": 2, "place_behind": 3,
              "place_ahead": 3},
    "blocks": {"coins": 1, "groups": 1, "levels": 1, "blocks": 2, "block_lot": 1, "new_blocks": 4},
    "endings": {"endings": 1, "ending": 2, "rank": 2, "common": 3, "lengths": 1, "order_fault": 2, "is_order": 2,
                "kept_for": 3, "exchanged": 2, "staying": 2, "fewest_moves": 2},
    "asks": {"places": 2, "count": 2, "first_place": 2, "last_place": 2, "next_place": 3, "texts_with": 2, "span": 2,
             "gap": 2, "is_gap": 3, "all_pieces": 1, "many_long": 2, "piece_numbered": 2, "number_of": 2},
    "rows": {"row_ahead": 1, "leads": 1, "is_row": 1, "told_back": 1, "many_ahead": 3, "less_than": 2,
             "found_behind": 2},
    "classes": {"classes": 1, "least_pieces": 2, "turned_classes": 2, "class_of": 2, "grown": 2, "many_pieces": 2,
                "is_longest": 2, "class_stays": 3, "up": 2, "down": 2, "up_tree": 1, "down_tree": 1},
    "webs": {"right_ties": 2, "left_ties": 2, "web_of": 1, "read_by": 2, "count_by": 2, "first_by": 2, "texts_by": 1,
             "is_web": 2},
    "machines": {"machine_of": 1, "tells": 2, "machine_fault": 2},
    "repeats": {"longest_repeat": 1, "common_longest": 2, "least_alone": 2, "greatest_repeats": 1, "alone": 1,
                "lacking": 2},
    "runs": {"periods": 1, "borders": 1, "runs": 1, "is_run": 2, "is_phrasing": 2, "told_by": 1, "phrasing": 1,
             "fewest_phrases": 1},
    "patterns": {"is_pattern": 1, "is_fit": 3, "pattern_text": 1, "read_pattern": 1, "fits": 2, "fitting_pieces": 2,
                 "longest_fits": 2, "apart_fits": 2},
    "searches": {"searched": 2, "near_by_stretches": 3, "near": 3, "with_holes": 2, "stretches": 2, "nearest": 2},
    "disks": {"record": 1, "read_record": 1},
    "saves": {"edit_text": 1, "read_edit": 1, "told_library": 1},
    "pictures": {"drawn_blocks": 1, "drawn_fits": 2, "drawn_edit": 2},
    "tongues": {"asked": 2},
}
CLASSES = {
    "errors": {
        "PieceError": (), "BadLibrary": (), "NoWord": (), "NoPlace": (), "NoEdit": (), "BadEdits": (), "NoNames": (),
        "NoText": (), "NoLevel": (), "NoNumber": (), "NothingDone": (), "NoRow": (), "NoSign": (), "NoClass": (),
        "BadWeb": (), "NoMachine": (), "TooMany": (), "NoState": (), "NoSigns": (), "NoPhrases": (), "NoPattern": (),
        "BadPattern": (), "NoGaps": (), "NoHoles": (), "NoLine": (), "NoCut": (), "NoLines": (), "NoDisk": (),
        "NoAsk": (), "NoName": (),
    },
    "libraries": {"Library": ("__init__", "__eq__")},
    "shelves": {"Shelf": ("__init__", "library", "order", "common_lengths", "rank_of", "span_of", "do", "back",
                          "again", "depth", "copy")},
    "webs": {"Web": ("__init__", "__eq__")},
    "growers": {"Grower": ("put", "text", "lots", "ends", "ties", "link", "state_of", "copy")},
    "disks": {"Disk": ("__init__", "write", "sync", "synced", "lines", "cut", "drop", "copy")},
    "saves": {"Vault": ("__init__", "library", "edit", "sync", "save", "told_names", "moved")},
    "desks": {"Desk": ("__init__", "tell")},
}


def defined_in(name):
    with open(os.path.join(PACKAGE, name + ".py"), encoding="utf-8") as file:
        return {node.name: node for node in ast.parse(file.read()).body
                if isinstance(node, (ast.FunctionDef, ast.ClassDef))}


class InterfaceTest(unittest.TestCase):

    def test_functions(self):
        for file, functions in FUNCTIONS.items():
            for name, many in functions.items():
                self.assertIsInstance(defined_in(file)[name], ast.FunctionDef)
                function = getattr(importlib.import_module("everypiece." + file), name)
                self.assertEqual(len(inspect.signature(function).parameters), many)

    def test_classes(self):
        for file, classes in CLASSES.items():
            for name, methods in classes.items():
                node = defined_in(file)[name]
                self.assertIsInstance(node, ast.ClassDef)
                own = [part.name for part in node.body if isinstance(part, ast.FunctionDef)]
                for method in methods:
                    self.assertIn(method, own)


if __name__ == "__main__":
    unittest.main()
