"""The interface: each name stands in its file, is defined there, and takes what the document states."""

import ast
import copy
import importlib
import inspect
import unittest

from tautrounds.desk import Desk
from tautrounds.drawings import Drawing
from tautrounds.errors import BadDrawing, BadLive, BadSkin
from tautrounds.live import Live
from tautrounds.livefans import LiveFan
from tautrounds.skins import Skin
from tests.helpers import NO_SKINS, ODD_VALUES, check_error

INTERFACE = {
    "skins": {
        "Skin": "row", "next_end": "skin end", "rims": "skin", "genus": "skin", "mirrored": "skin",
        "renamed": "skin letters", "least_skin": "skin",
    },
    "words": {"is_word": "skin thing", "free": "skin word", "undone": "skin word"},
    "rounds": {
        "round_of": "skin word", "is_round": "skin thing", "turned_about": "skin loop", "gone": "skin loop times",
        "root_of": "skin loop", "along": "skin one other",
    },
    "slides": {
        "slid": "skin end side", "led": "skin images word", "plain_skin": "genus rims", "plain_way": "skin",
        "is_plain_way": "skin thing", "way_images": "skin way",
    },
    "lines": {"stretch": "skin one place other spot"},
    "linked": {
        "linked_pairs": "skin one other", "own_pairs": "skin loop", "crossings": "skin one other",
        "own_crossings": "skin loop", "fewest": "skin rounds",
    },
    "simple": {"is_simple": "skin loop", "simple_rounds": "skin most", "is_even": "skin loop"},
    "drawings": {"Drawing": "skin rounds rows", "crossed": "drawing", "crossed_number": "drawing"},
    "best": {"best_drawing": "skin rounds"},
    "patches": {"patches": "drawing", "is_fewest": "drawing"},
    "pushes": {
        "exchanged": "drawing band place", "rise": "drawing band place", "straightened": "drawing",
        "is_way": "drawing thing",
    },
    "pieces": {"pieces": "drawing", "inner_discs": "drawing", "fills": "skin rounds", "free_round": "skin rounds"},
    "sums": {"is_sum": "skin thing", "added": "skin one other times", "weight": "skin some"},
    "brackets": {"bracket_drawn": "drawing one other", "bracket": "skin one other"},
    "splits": {"split_drawn": "drawing index", "split": "skin some"},
    "changes": {
        "behind": "skin one other", "led_sum": "skin images some", "is_change": "skin images",
        "undone_change": "skin images", "shown_against": "skin images", "is_shown_against": "skin images thing",
    },
    "twists": {"twist": "skin loop times"},
    "cuts": {
        "parts": "skin rounds", "is_parts": "skin rounds thing", "home": "skin rounds loop", "sides": "skin loop",
        "alike_rounds": "skin one other",
    },
    "live": {"Live": "skin cross"},
    "orders": {"may_change": "skin deeds at", "orders": "skin deeds"},
    "wordtexts": {
        "word_text": "skin word", "skin_text": "skin", "read_word": "skin text", "read_round": "skin text",
        "read_skin": "text",
    },
    "drawingtexts": {
        "sum_text": "skin some", "drawing_text": "drawing", "read_sum": "skin text", "read_drawing": "text",
    },
    "logs": {"log_text": "live", "read_log": "text"},
    "merges": {"merged": "skin base one other", "clash": "skin base one other"},
    "desk": {"Desk": "skin"},
    "orbits": {
        "orbit_many": "size pairings", "orbit_kinds": "size pairings weights",
        "orbit_sum": "size pairings weights number", "same_orbit": "size pairings one other",
    },
    "roundkinds": {"kinds": "skin numbers", "rounds_many": "skin numbers", "round_there": "skin numbers band place"},
    "strips": {"crossed_by": "skin numbers loop", "rim_times": "skin numbers", "without_rims": "skin numbers"},
    "bundles": {
        "numbers_of": "skin rounds", "is_bundle": "skin thing", "joined": "skin numbers", "bundle_of": "skin numbers",
        "laid": "skin one other", "multiplied": "skin numbers times", "divided": "skin numbers shares",
        "bundles_crossed": "skin one other", "is_apart": "skin one other",
    },
    "leads": {
        "slid_bundle": "skin end side numbers", "led_bundle": "skin images numbers",
        "twisted_bundle": "skin loop times numbers",
    },
    "bridges": {"bridge_of": "skin start word end", "is_bridge": "skin thing", "rims_at": "skin bridge"},
    "overpasses": {
        "overpasses": "skin bridge loop", "bridges_crossed": "skin one other", "own_overpasses": "skin bridge",
    },
    "fans": {"is_fan": "skin thing", "first_fan": "skin", "triangles": "skin fan", "completed": "skin bridges"},
    "flips": {
        "flipped": "skin fan place", "nearer": "skin fan bridge", "flip_way": "skin one other",
        "is_flip_way": "skin one other thing", "fewest_flips": "skin one other",
    },
    "fannumbers": {
        "numbers_on": "skin fan numbers", "is_numbers_on": "skin fan thing", "numbers_from": "skin fan row",
    },
    "patterns": {
        "pattern": "skin fan", "symmetries": "skin fan", "patterns": "skin", "led_bridge": "skin images bridge",
        "led_fan": "skin images fan", "fan_changes": "skin one other",
    },
    "livefans": {"LiveFan": "skin"},
}
METHODS = {
    "loop": "name", "copy": "", "draw": "name loop", "wipe": "name", "swap": "band place", "settle": "",
    "slide": "end side", "rename": "letters", "change": "images", "twist": "name times", "number": "name other",
    "fewest": "", "crossed": "", "over": "", "do": "deeds", "steps": "", "undo": "", "redo": "", "mark": "name",
    "to": "name", "marks": "",
}
FAN = [(0, (), 1), (0, (), 2), (0, (), 3)]
FLIPPED = [(0, (), 1), (0, (), 3), (1, (), 3)]
METHODS_OF_FAN = {
    "lay": "name numbers", "lift": "name", "flip": "place", "lead": "images", "row": "name", "numbers": "name",
    "undo": "", "redo": "",
}
# The files of part 8, which want skins of two bands or more.
WITH_BANDS = ("bridges", "overpasses", "fans", "flips", "fannumbers", "patterns", "livefans")
# Objects of which the document does not say when they are equal.
WITHOUT_EQUAL = ("Desk",)
# What is handed in under a name that another function wants to be something else.
SPECIAL = {
    ("bracket_drawn", "one"): 0, ("bracket_drawn", "other"): 1, ("bracket", "one"): {(0,): 1},
    ("bracket", "other"): {(2,): 1}, ("added", "one"): {(0,): 1}, ("added", "other"): {(2,): 1},
    ("behind", "one"): [(0,), (1,), (2,), (3,)], ("behind", "other"): [(0,), (1,), (2,), (3,)],
    ("is_change", "images"): [(2,), (3,), (0,), (1,)], ("undone_change", "images"): [(2,), (3,), (0,), (1,)],
    ("twist", "loop"): (0,), ("sides", "loop"): (0,), ("alike_rounds", "one"): (0,), ("alike_rounds", "other"): (2,),
    ("Live", "cross"): None, ("read_word", "text"): "ab", ("read_round", "text"): "ab", ("read_skin", "text"): "aAbB",
    ("read_sum", "text"): "1 a\n", ("read_drawing", "text"): "aAbB\n\n\n\n", ("read_log", "text"): "aAbB\nsettle\n",
    ("numbers_of", "rounds"): [(0,), (0, 2)], ("laid", "one"): (1, 1, 2), ("laid", "other"): (1, 0, 0),
    ("bundles_crossed", "one"): (1, 1, 2), ("bundles_crossed", "other"): (1, 0, 0), ("is_apart", "one"): (1, 1, 2),
    ("is_apart", "other"): (1, 0, 0), ("same_orbit", "one"): 1, ("same_orbit", "other"): 2,
    ("led_bundle", "images"): [(2,), (3,), (0,), (1,)], ("twisted_bundle", "loop"): (0,),
    ("flipped", "place"): 1, ("flip_way", "one"): FAN, ("flip_way", "other"): FLIPPED, ("is_flip_way", "one"): FAN,
    ("is_flip_way", "other"): FLIPPED, ("is_flip_way", "thing"): [(0, (), 2)], ("fewest_flips", "one"): FAN,
    ("fewest_flips", "other"): FLIPPED, ("is_fan", "thing"): FAN, ("completed", "bridges"): [(1, (), 3)],
    ("is_numbers_on", "thing"): (2, 2, 1), ("numbers_from", "row"): (2, 2, 1), ("triangles", "fan"): FAN,
    ("bridges_crossed", "one"): (0, (), 2), ("bridges_crossed", "other"): (1, (), 3),
    ("led_bridge", "images"): [(2,), (3,), (0,), (1,)], ("led_fan", "images"): [(2,), (3,), (0,), (1,)],
    ("fan_changes", "one"): FAN, ("fan_changes", "other"): FAN,
    ("merged", "one"): [("settle",)], ("merged", "other"): [], ("clash", "one"): [("settle",)], ("clash", "other"): [],
}


def spoil(thing):
    """Changes all lists and dicts in what was told."""
    if type(thing) in (list, tuple):
        for part in thing:
            spoil(part)
    if type(thing) is list:
        thing.append("spoilt")
    if type(thing) is dict:
        thing["spoilt"] = None


class InterfaceTest(unittest.TestCase):
    def test_names_and_arguments(self):
        for name, wanted in INTERFACE.items():
            module = importlib.import_module("tautrounds." + name)
            for thing, arguments in wanted.items():
                told = list(inspect.signature(getattr(module, thing)).parameters)
                self.assertEqual(told, arguments.split(), thing)

    def test_defined_where_they_are_listed(self):
        for name, wanted in INTERFACE.items():
            module = importlib.import_module("tautrounds." + name)
            with open(module.__file__, encoding="utf-8") as source:
                tree = ast.parse(source.read())
            defined = [node.name for node in tree.body if isinstance(node, (ast.FunctionDef, ast.ClassDef))]
            for thing in wanted:
                self.assertIn(thing, defined)

    def test_methods(self):
        self.assertEqual(set(METHODS) - set(vars(Live)), set())
        for name, arguments in METHODS.items():
            self.assertEqual(list(inspect.signature(getattr(Live, name)).parameters), ["self"] + arguments.split())
        self.assertIs(inspect.signature(Live).parameters["cross"].default, None)
        self.assertIs(inspect.signature(Live.number).parameters["other"].default, None)
        self.assertEqual(list(inspect.signature(vars(Desk)["say"]).parameters), ["self", "line"])
        self.assertEqual(set(METHODS_OF_FAN) - set(vars(LiveFan)), set())
        for name, arguments in METHODS_OF_FAN.items():
            self.assertEqual(list(inspect.signature(getattr(LiveFan, name)).parameters), ["self"] + arguments.split())
        self.assertTrue({"skin", "fan", "names"} <= set(vars(LiveFan(Skin((0, 1, 2, 3))))))
        self.assertTrue({"first", "skin", "names", "drawing"} <= set(vars(Live(Skin((0, 1))))))

    def test_named_arguments_and_new_lists(self):
        """Named arguments tell the same as those by position; what is handed in stays, what is told is new."""
        skin, rounds, rows = Skin((0, 1, 2, 3)), [(0,), (0, 2)], [[(0, 0), (1, 0)], [(1, 1)]]
        drawing = Drawing(skin, rounds, rows)
        values = {
            "skin": skin, "word": (0, 2, 1), "thing": (0, 2), "loop": (0, 3), "times": 2, "one": (0, 3),
            "other": (0, 2), "end": 1, "letters": [1, 0, 2, 3], "images": [(0, 2), (3, 1), (2,), (3,)],
            "way": [("rename", (0, 1, 2, 3))], "place": 0, "spot": 0, "rounds": rounds, "rows": rows, "most": 3,
            "side": 1, "drawing": drawing, "band": 0, "row": [0, 2, 1, 3], "genus": 1, "rims": 1,
            "some": {(0, 3): 1}, "index": 0, "live": Live(skin), "at": 0, "base": [],
            "deeds": [("draw", "x", (0,)), ("settle",)], "numbers": (2, 1, 2), "shares": 1, "size": 5,
            "pairings": [(0, 0, 5, -1)], "weights": [(5, (1,))], "number": 3, "start": 0, "bridge": (0, (), 2),
            "bridges": [(0, (), 2)], "fan": FAN,
        }
        before = copy.deepcopy([values, SPECIAL])
        for name, wanted in INTERFACE.items():
            module = importlib.import_module("tautrounds." + name)
            for thing, arguments in wanted.items():
                act = getattr(module, thing)
                named = {word: SPECIAL.get((thing, word), values.get(word)) for word in arguments.split()}
                told = act(*named.values())
                again = act(**named)
                if thing in WITHOUT_EQUAL:
                    continue
                self.assertEqual(told, again, thing)
                spoil(told)
                self.assertEqual(act(**named), again, thing)
                self.assertEqual([values, SPECIAL], before, thing)

    def test_what_is_wanted_first(self):
        """Where a Skin, a Drawing or a Live is wanted and something else is given, this comes ahead of all others."""
        wanted_errors = {"skin": BadSkin, "drawing": BadDrawing, "live": BadLive}
        seen = {word: 0 for word in wanted_errors}
        for name, wanted in INTERFACE.items():
            module = importlib.import_module("tautrounds." + name)
            for thing, arguments in wanted.items():
                first, *rest = arguments.split()
                if first not in wanted_errors or thing == "Skin":
                    continue
                for value in NO_SKINS + ODD_VALUES:
                    if thing == "Live" and rest:
                        rest = []
                    check_error(self, wanted_errors[first], ("part", None), getattr(module, thing), value,
                                *[None for _ in rest])
                seen[first] += 1
                if name in WITH_BANDS:
                    check_error(self, BadSkin, ("part", "bands"), getattr(module, thing), Skin((0, 1)),
                                *[None for _ in rest])
        self.assertEqual(seen["live"], 1)
        self.assertGreater(seen["drawing"], 10)
        self.assertGreater(seen["skin"], 80)

    def test_lists_may_be_tuples(self):
        """Where a list is spoken of a tuple may be given ([3]), at the first level of each argument."""
        for name, wanted in INTERFACE.items():
            module = importlib.import_module("tautrounds." + name)
            for thing, arguments in wanted.items():
                named = {word: SPECIAL[(thing, word)] for word in arguments.split() if (thing, word) in SPECIAL}
                lists = [word for word in named if type(named[word]) is list]
                if set(named) | {"skin"} == set(arguments.split()) and lists:
                    act, skin = getattr(module, thing), Skin((0, 1, 2, 3))
                    tuples = {word: tuple(named[word]) if word in lists else named[word] for word in named}
                    self.assertEqual(act(skin, **named), act(skin, **tuples), thing)


if __name__ == "__main__":
    unittest.main()
