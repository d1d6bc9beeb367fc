"""The interface: each name stands in its file, is defined there, and takes what the document states."""

import ast
import copy
import importlib
import inspect
import unittest

from tautrounds.drawings import Drawing
from tautrounds.skins import Skin

INTERFACE = {
    "skins": {
        "Skin": "row", "next_end": "skin end", "rims": "skin", "genus": "skin", "mirrored": "skin",
        "renamed": "skin letters", "least_skin": "skin",
    },
    "words": {"is_word": "skin thing", "free": "skin word", "undone": "skin word"},
    "rounds": {
        "round_of": "skin word", "is_round": "skin thing", "turned_about": "skin loop", "gone": "skin loop times",
        "root_of": "skin loop", "along": "skin one other",
    },
    "slides": {
        "slid": "skin end side", "led": "skin images word", "plain_skin": "genus rims", "plain_way": "skin",
        "is_plain_way": "skin thing", "way_images": "skin way",
    },
    "lines": {"stretch": "skin one place other spot"},
    "linked": {
        "linked_pairs": "skin one other", "own_pairs": "skin loop", "crossings": "skin one other",
        "own_crossings": "skin loop", "fewest": "skin rounds",
    },
    "simple": {"is_simple": "skin loop", "simple_rounds": "skin most", "is_even": "skin loop"},
    "drawings": {"Drawing": "skin rounds rows", "crossed": "drawing", "crossed_number": "drawing"},
    "best": {"best_drawing": "skin rounds"},
    "patches": {"patches": "drawing", "is_fewest": "drawing"},
    "pushes": {
        "exchanged": "drawing band place", "rise": "drawing band place", "straightened": "drawing",
        "is_way": "drawing thing",
    },
}


class InterfaceTest(unittest.TestCase):
    def test_names_and_arguments(self):
        for name, wanted in INTERFACE.items():
            module = importlib.import_module("tautrounds." + name)
            for thing, arguments in wanted.items():
                told = list(inspect.signature(getattr(module, thing)).parameters)
                self.assertEqual(told, arguments.split(), thing)

    def test_defined_where_they_are_listed(self):
        for name, wanted in INTERFACE.items():
            module = importlib.import_module("tautrounds." + name)
            with open(module.__file__, encoding="utf-8") as source:
                tree = ast.parse(source.read())
            defined = [node.name for node in tree.body if isinstance(node, (ast.FunctionDef, ast.ClassDef))]
            for thing in wanted:
                self.assertIn(thing, defined)

    def test_named_arguments_and_new_lists(self):
        """Named arguments tell the same as those by position; what is handed in stays, what is told is new."""
        skin, rounds, rows = Skin((0, 1, 2, 3)), [(0,), (0, 2)], [[(0, 0), (1, 0)], [(1, 1)]]
        drawing = Drawing(skin, rounds, rows)
        values = {
            "skin": skin, "word": (0, 2, 1), "thing": (0, 2), "loop": (0, 3), "times": 2, "one": (0, 3),
            "other": (0, 2), "end": 1, "letters": [1, 0, 2, 3], "images": [(0, 2), (3, 1), (2,), (3,)],
            "way": [("rename", (0, 1, 2, 3))], "place": 0, "spot": 0, "rounds": rounds, "rows": rows, "most": 3,
            "side": 1, "drawing": drawing, "band": 0, "row": [0, 2, 1, 3], "genus": 1, "rims": 1,
        }
        before = copy.deepcopy(values)
        for name, wanted in INTERFACE.items():
            module = importlib.import_module("tautrounds." + name)
            for thing, arguments in wanted.items():
                act = getattr(module, thing)
                told = act(*[values[word] for word in arguments.split()])
                again = act(**{word: values[word] for word in arguments.split()})
                self.assertEqual(told, again, thing)
                if type(told) is list:
                    told.append(None)
                    again.append(None)
                    self.assertEqual(act(*[values[word] for word in arguments.split()]), told[:-1], thing)
                self.assertEqual(values, before, thing)


if __name__ == "__main__":
    unittest.main()
