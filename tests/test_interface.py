"""The names, arguments and homes that the interface lists."""

import importlib
import inspect
import unittest

FUNCTIONS = {
    "lanescroll.wholes": {
        "is_whole": "(thing, low, high)",
        "is_bytes": "(thing)",
    },
    "lanescroll.ratios": {
        "fraction": "(top, bottom=1)",
        "is_fraction": "(thing)",
        "is_moment": "(thing)",
        "plus": "(one, other)",
        "minus": "(one, other)",
        "times": "(one, other)",
        "shared": "(one, other)",
        "less": "(one, other)",
        "floor": "(one)",
    },
    "lanescroll.rules": {
        "rule_of": "(told)",
    },
    "lanescroll.leaves": {
        "leaf_of": "(told)",
        "fits": "(leaf, number, wide)",
    },
    "lanescroll.edits": {
        "is_edits": "(thing)",
        "mapped": "(edits, t)",
        "total": "(edits)",
        "tidy": "(edits)",
        "parted": "(one, other)",
        "over": "(outer, inner)",
        "part": "(edits, low, high)",
        "after": "(one, other)",
        "stretches": "(edits, low, high)",
    },
    "lanescroll.films": {
        "film_of": "(told)",
    },
    "lanescroll.chains": {
        "known": "(leaves, number, cell)",
        "table": "(leaves, number, cell)",
        "needed": "(leaves, wide, numbers)",
    },
    "lanescroll.rows": {
        "written": "(number)",
        "read_number": "(row, at=0)",
        "check": "(row)",
        "stuffed": "(row)",
        "unstuffed": "(row)",
    },
    "lanescroll.boxes": {
        "box": "(kind, body)",
        "box_at": "(row, at=0)",
        "boxes_in": "(row)",
    },
    "lanescroll.bodies": {
        "head_body": "(head)",
        "piece_body": "(piece)",
        "index_body": "(index)",
        "read_head": "(body)",
        "read_piece": "(body)",
        "read_index": "(body)",
    },
    "lanescroll.pieces": {
        "piece": "(film, lane, first, many)",
        "pieces": "(film, many=8)",
        "due_from": "(film, lane, number)",
        "ordered": "(film, pieces)",
        "read_by": "(film, pieces, t)",
    },
    "lanescroll.files": {
        "write": "(film, many=8)",
        "read": "(row)",
    },
    "lanescroll.cuts": {
        "cut": "(film, low, high)",
        "join": "(one, other)",
        "edited": "(film, edits)",
        "beside": "(one, other)",
        "only": "(film, lanes)",
    },
    "lanescroll.player": {
        "changes": "(film, lane, low, high)",
    },
    "lanescroll.texts": {
        "film_text": "(film)",
        "read_text": "(text)",
        "moment_word": "(moment)",
        "read_moment": "(word)",
        "hex_of": "(row)",
        "bytes_of": "(text)",
    },
}

RULE = {"told": "(self)", "needs": "(self)", "value": "(self, found)"}
LEAF = {"told": "(self)", "cells": "(self)", "rule": "(self, cell)"}
CLASSES = {
    "lanescroll.rules": {
        "Rule": (None, RULE),
        "Plain": ("(value)", RULE),
        "Moved": ("(back, cell, add)", RULE),
        "Mixed": ("(back, cell, other_back, other_cell)", RULE),
    },
    "lanescroll.leaves": {
        "Leaf": ("(begin, span)", LEAF),
        "Full": ("(begin, span, values)", LEAF),
        "Still": ("(begin, span, back)", LEAF),
        "Woven": ("(begin, span, rules)", LEAF),
    },
    "lanescroll.films": {
        "Film": (None, {
            "told": "(self)",
            "units": "(self, lane)",
            "many": "(self, lane)",
            "edits": "(self, lane)",
            "told_leaf": "(self, lane, number)",
            "length": "(self)",
            "read": "(self, lane)",
            "picture": "(self, lane, number)",
            "leaf_at": "(self, lane, x)",
            "shown": "(self, lane, t)",
        }),
    },
    "lanescroll.boxes": {
        "Feed": ("()", {"take": "(self, part)", "taken": "(self)"}),
    },
    "lanescroll.gather": {
        "Gather": ("(seal)", {
            "take": "(self, row)",
            "head": "(self)",
            "came": "(self, lane)",
            "clashes": "(self, lane)",
            "lost": "(self, lane)",
            "value": "(self, lane, number, cell)",
            "table": "(self, lane, number, cell)",
            "picture": "(self, lane, number)",
            "shown": "(self, lane, t)",
            "whole": "(self)",
            "film": "(self)",
            "salvage": "(self)",
            "twin": "(self)",
        }),
    },
    "lanescroll.seeker": {
        "Seeker": ("(row)", {"shown": "(self, lane, t)", "opened": "(self)", "seeks": "(self)"}),
    },
    "lanescroll.player": {
        "Player": ("(film)", {"play": "(self, span)", "seek": "(self, t)", "here": "(self)"}),
    },
    "lanescroll.desk": {
        "Desk": ("()", {"say": "(self, row)"}),
    },
}


class Interface(unittest.TestCase):
    def test_functions_have_their_arguments_and_their_home(self):
        for home, functions in FUNCTIONS.items():
            module = importlib.import_module(home)
            for name, arguments in functions.items():
                with self.subTest(home=home, name=name):
                    found = getattr(module, name)
                    self.assertTrue(inspect.isfunction(found))
                    self.assertEqual(str(inspect.signature(found)), arguments)
                    self.assertEqual(found.__module__, home)

    def test_classes_have_their_arguments_and_their_home(self):
        for home, classes in CLASSES.items():
            module = importlib.import_module(home)
            for name, (arguments, methods) in classes.items():
                with self.subTest(home=home, name=name):
                    found = getattr(module, name)
                    self.assertTrue(inspect.isclass(found))
                    self.assertEqual(found.__module__, home)
                    if arguments is not None:
                        self.assertEqual(str(inspect.signature(found)), arguments)

    def test_methods_stand_in_their_class_itself(self):
        for home, classes in CLASSES.items():
            module = importlib.import_module(home)
            for name, (arguments, methods) in classes.items():
                for method, method_arguments in methods.items():
                    with self.subTest(home=home, name=name, method=method):
                        found = vars(getattr(module, name))[method]
                        self.assertTrue(inspect.isfunction(found))
                        self.assertEqual(str(inspect.signature(found)), method_arguments)


if __name__ == "__main__":
    unittest.main()
