"""Promises k58, k59, k74, point [70]: desks, led beside live skins and bundles."""

import unittest

from tautrounds import errors
from tautrounds.brackets import bracket
from tautrounds.bundles import is_bundle, numbers_of
from tautrounds.desk import Desk
from tautrounds.drawingtexts import drawing_text, sum_text
from tautrounds.errors import BadSkin, RoundError
from tautrounds.leads import slid_bundle, twisted_bundle
from tautrounds.live import Live
from tautrounds.logs import log_text, read_log
from tautrounds.merges import merged
from tautrounds.orders import orders
from tautrounds.pieces import fills
from tautrounds.simple import is_simple
from tautrounds.skins import Skin, genus, rims
from tautrounds.wordtexts import skin_text, word_text
from tests.helpers import (
    HOLES, NO_SKINS, ODD_VALUES, RING, TORUS, Counterfeit, chance_deed, chance_of, chance_skin, check_error, live_of,
)

WHAT = [
    "", " ", "draw", "draw x", "draw x a ", " draw x a", "draw  x a", "draw x g", "draw X a", "draw abcdefghi a",
    "draw x a b", "draw x a;", "draw x a ;settle", "draw x a;settle", "draw x a; ", "; settle", "settle ; settle",
    "settle\n", "settle x", "Settle", "wipe", "wipe x y", "wipe 1", "swap 0", "swap 0 01", "swap 0 -0", "swap a 0",
    "swap 0 12345678901", "swap +1 0", "slide a", "slide a 1", "slide ab +", "slide g +", "slide a ++", "rename",
    "rename aAbB ", "rename gG", "change", "change ab ", "wipe", "swap", "slide", "twist", "twist x", "twist x 1.0", "twist x --1", "twist 1 x", "undo 1",
    "undo x", "undo; undo", "settle; undo", "redo 1", "mark", "mark X", "mark x y", "mark abcdefghi", "to", "to 1",
    "names x", "skin x", "round", "round x y", "round 1", "number", "number x y z", "number X", "fewest x",
    "crossed x", "over x", "genus x", "rims x", "simple", "simple x y", "fills x", "bracket x", "bracket x y z",
    "drawing x", "log x", "log\n", "LOG", "what", "ok", "draw x \u00e4", "twist x \u0661", "draw \u00e4 a",
]


def rows_told(text):
    """A text as a desk tells it, row by row."""
    return text[:-1].replace("\n", " | ")


class SayTest(unittest.TestCase):
    def check_all(self, desk, rows):
        for line, wanted in rows:
            told = desk.say(line)
            self.assertEqual((line, told), (line, wanted))
            self.assertIs(type(told), str)

    def test_all_lines(self):
        desk = Desk(TORUS)
        self.check_all(desk, [
            ("names", "-"), ("skin", "abAB"), ("genus", "1"), ("rims", "aBAb"), ("fewest", "0"), ("crossed", "0"),
            ("over", "0"), ("fills", "no"), ("drawing", "abAB |  |  | "), ("log", "abAB"),
            ("undo", "no notnow"), ("redo", "no notnow"), ("to m", "no nomark"),
            ("draw x a", "ok"), ("draw y b", "ok"), ("mark m", "ok"), ("names", "x y"), ("round x", "a"),
            ("number x", "0"), ("number x y", "1"), ("number y x", "1"), ("fewest", "1"), ("crossed", "1"),
            ("over", "0"), ("simple x", "yes"), ("fills", "yes"), ("bracket x y", "1 ab"), ("bracket y x", "-1 ab"),
            ("bracket x x", "-"), ("drawing", "abAB | a b | 0.0 | 1.0"), ("log", "abAB | draw x a | draw y b"),
            ("draw z aab; settle", "ok"), ("swap 0 1", "ok"), ("slide a +", "ok"), ("rename bBaA", "ok"),
            ("twist x -2", "ok"), ("wipe x", "ok"), ("names", "y z"), ("undo", "ok"), ("names", "x y z"),
            ("redo", "ok"), ("to m", "ok"), ("names", "x y"), ("change ab BA b B", "ok"), ("round x", "ab"),
            ("log", "abAB | draw x a | draw y b | change ab BA b B"),
        ])

    def test_refused_lines(self):
        desk = Desk(TORUS)
        desk.say("draw x a")
        desk.say("draw y b")
        self.check_all(desk, [
            ("draw x b", "no badname"), ("draw z ba", "no badround"), ("draw z c", "no badround"),
            ("draw z " + "a" * 41, "no badround"), ("wipe z", "no badname"), ("swap 2 0", "no badnumber"),
            ("swap 0 0", "no badnumber"), ("swap -1 0", "no badnumber"), ("slide f +", "no badnumber"),
            ("slide e -", "no badnumber"), ("rename a", "no badnumber"), ("rename abAB", "no badnumber"),
            ("change a A b", "no badimages"), ("change aa AA b B", "no badimages"), ("change a A b b", "no badimages"),
            ("twist z 1", "no badname"), ("twist x 10", "no badnumber"), ("twist x -9999999999", "no badnumber"),
            ("round z", "no badname"), ("number x x", "no badname"), ("number z", "no badname"),
            ("number x z", "no badname"), ("simple z", "no badname"), ("bracket x z", "no badname"),
            ("bracket z x", "no badname"), ("to m", "no nomark"), ("redo", "no notnow"),
            ("settle; wipe z", "no badname"), ("draw z aa; twist z 1", "no notsimple"),
            ("log", "abAB | draw x a | draw y b"), ("names", "x y"),
        ])
        self.assertEqual(Desk(HOLES).say("slide a +"), "no notnow")

    def test_too_many(self):
        desk = Desk(TORUS)
        for name in "abcdefgh":
            self.assertEqual(desk.say("draw " + name + " a"), "ok")
        self.assertEqual(desk.say("draw i a"), "no toomany")
        desk = Desk(TORUS)
        desk.say("draw x " + "a" * 40)
        desk.say("draw y " + "b" * 40)
        before = desk.say("log")
        self.check_all(desk, [("draw z a", "no toomany"), ("slide a +", "no toomany"), ("log", before)])

    def test_what(self):
        desk = Desk(TORUS)
        desk.say("draw x a")
        desk.say("draw y b")
        before = [desk.say("log"), desk.say("drawing")]
        for line in WHAT + ODD_VALUES + [Counterfeit(), ["names"], b"names", 7, ("names",)]:
            if line != "0":
                self.assertEqual(desk.say(line), "what", line)
        self.assertEqual([desk.say("log"), desk.say("drawing")], before)
        self.assertEqual(desk.say(line="names"), "x y")

    def test_no_skin(self):
        for skin in NO_SKINS:
            check_error(self, BadSkin, ("part", None), Desk, skin)
        self.assertEqual(Desk(skin=RING).say("skin"), "aA")

    def test_each_error_has_its_word(self):
        names = [name for name in vars(errors) if name.startswith(("Bad", "No", "Too"))]
        self.assertEqual(len({name.lower() for name in names}), 20)

    def test_bracket_of_long_rounds(self):
        """The bracket is told however many rounds it has and however long they are."""
        skin = Skin((0, 2, 4, 1, 3, 5))
        desk = Desk(skin)
        one, other = "aabbc" * 8, "aCbbc" * 8
        self.assertEqual((desk.say("draw x " + one), desk.say("draw y " + other)), ("ok", "ok"))
        rows = desk.say("bracket x y").split(" | ")
        self.assertGreater(max(len(row.split(" ")[1]) for row in rows), 40)


class BesideTest(unittest.TestCase):
    """Live skins and desks, led one beside the other ([62] to [70])."""

    def line_of(self, deed):
        live = Live(Skin((0, 1)))
        live._steps, live._done = [(deed,)], 1
        return log_text(live).split("\n")[1]

    def check_alike(self, desk, live):
        self.assertEqual(desk.say("log"), rows_told(log_text(live)))
        self.assertEqual(desk.say("drawing"), rows_told(drawing_text(live.drawing)))
        self.assertEqual(desk.say("names"), " ".join(live.names) or "-")
        self.assertEqual(desk.say("skin"), skin_text(live.skin))
        self.assertEqual(desk.say("genus"), str(genus(live.skin)))
        self.assertEqual(desk.say("rims"), " ".join(word_text(live.skin, rim) for rim in rims(live.skin)))
        self.assertEqual(desk.say("fewest"), str(live.fewest()))
        self.assertEqual(desk.say("crossed"), str(live.crossed()))
        self.assertEqual(desk.say("over"), str(live.over()))
        self.assertEqual(desk.say("fills"), "yes" if fills(live.skin, live.drawing.rounds) else "no")
        told, good = read_log(desk.say("log").replace(" | ", "\n") + "\n")
        self.assertEqual((told, good), (live, len(log_text(live))))
        for at, name in enumerate(live.names):
            self.assertEqual(desk.say("round " + name), word_text(live.skin, live.loop(name)))
            self.assertEqual(desk.say("simple " + name), "yes" if is_simple(live.skin, live.loop(name)) else "no")
            for other in live.names[at + 1:]:
                self.assertEqual(desk.say("number " + name + " " + other), str(live.number(name, other)))
                some = bracket(live.skin, {live.loop(name): 1}, {live.loop(other): 1})
                if all(len(loop) <= 40 for loop in some) and len(some) <= 60:
                    wanted = rows_told(sum_text(live.skin, some)) if some else "-"
                    self.assertEqual(desk.say("bracket " + name + " " + other), wanted)

    def step(self, chance, desk, live, marks):
        """One line said, and the same done with the live skin: what the line is answered, and what it should be."""
        kind = chance.choice(["deed"] * 6 + ["undo", "redo", "mark", "to"])
        name = chance.choice("mno")
        acts = {"undo": live.undo, "redo": live.redo, "mark": lambda: live.mark(name), "to": lambda: live.to(name)}
        if kind == "deed":
            deeds = [chance_deed(chance, live) for _ in range(chance.choice([1, 1, 2]))]
            line, act = "; ".join(self.line_of(deed) for deed in deeds), lambda: live.do(deeds)
        else:
            line, act = kind + (" " + name if kind in ("mark", "to") else ""), acts[kind]
        try:
            act()
            wanted = "ok"
        except RoundError as error:
            wanted = "no " + type(error).__name__.lower()
        return desk.say(line), wanted

    def test_courses(self):
        chance = chance_of(1)
        refused = 0
        for _ in range(25):
            skin = chance_skin(chance, chance.randint(1, 4))
            desk, live, still = Desk(skin), Live(skin), Desk(skin)
            for _ in range(25):
                told, wanted = self.step(chance, desk, live, None)
                self.assertEqual(told, wanted)
                refused += told != "ok"
            self.check_alike(desk, live)
            self.assertEqual(still.say("log"), skin_text(skin))
        self.assertGreater(refused, 50)

    def test_bundles_follow_a_desk(self):
        """Simple rounds that do not cross, kept at a desk: their numbers are led as the deeds lead the rounds."""
        chance = chance_of(2)
        done = 0
        for _ in range(40):
            skin = chance_skin(chance, chance.randint(2, 4))
            live = Live(skin)
            live.draw("x", rims(skin)[0])
            for letter in range(2 * skin.bands):
                if len(live.names) < 3 and is_simple(skin, (letter,)):
                    live.draw("abcdefgh"[letter % 8], (letter,))
            numbers = {name: numbers_of(skin, [live.loop(name)]) for name in live.names}
            for _ in range(4):
                name, times = chance.choice(live.names), chance.choice([-2, -1, 1, 2])
                end, side = chance.randrange(2 * skin.bands), chance.choice([1, -1])
                try:
                    if chance.randrange(2):
                        loop = live.loop(name)
                        live.twist(name, times)
                        numbers = {one: twisted_bundle(live.skin, loop, times, numbers[one]) for one in numbers}
                    else:
                        old = live.skin
                        live.slide(end, side)
                        numbers = {one: slid_bundle(old, end, side, numbers[one]) for one in numbers}
                    done += 1
                except RoundError:
                    continue
                for one in numbers:
                    self.assertTrue(is_bundle(live.skin, numbers[one]))
                    self.assertEqual(numbers_of(live.skin, [live.loop(one)]), numbers[one])
        self.assertGreater(done, 60)

    def test_orders_and_merges_beside_a_desk(self):
        skin = TORUS
        deeds = [("draw", "x", (0,)), ("draw", "y", (2,)), ("settle",)]
        for order in orders(skin, deeds):
            desk = Desk(skin)
            for place in order:
                self.assertEqual(desk.say(self.line_of(deeds[place])), "ok")
            self.assertEqual(desk.say("drawing"), rows_told(drawing_text(live_of(skin, deeds).drawing)))
        both = merged(skin, deeds, [("slide", 0, 1)], [("twist", "x", 2)])
        desk = Desk(skin)
        for deed in both:
            self.assertEqual(desk.say(self.line_of(deed)), "ok")
        self.assertEqual(desk.say("drawing"), rows_told(drawing_text(live_of(skin, both).drawing)))


if __name__ == "__main__":
    unittest.main()
