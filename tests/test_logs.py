"""Promise [68]: logs of live skins."""

import unittest

from tautrounds.errors import BadLive, BadText, NotNow
from tautrounds.live import Live
from tautrounds.logs import log_text, read_log
from tautrounds.skins import Skin
from tautrounds.wordtexts import skin_text
from tests.helpers import (
    HOLES, NO_SKINS, ODD_VALUES, RING, TORUS, chance_deed, chance_deeds, chance_of, chance_skin, check_error, live_of,
)
from tests.test_wordtexts import NO_STRINGS

BY_HAND = [
    ("draw", "x", (0, 0, 2)), ("wipe", "x"), ("draw", "x", (0,)), ("draw", "y", (0, 2)), ("swap", 0, 0), ("settle",),
    ("slide", 0, 1), ("rename", (2, 3, 0, 1)), ("change", ((0, 2), (3, 1), (2,), (3,))), ("twist", "x", -2),
]
ROWS = [
    "draw x aab", "wipe x", "draw x a", "draw y ab", "swap 0 0", "settle", "slide a +", "rename bBaA",
    "change ab BA b B", "twist x -2",
]


def chance_live(chance, skin, many):
    """A live skin with steps of one deed or more."""
    live = Live(skin)
    deeds = chance_deeds(chance, skin, many)
    while deeds:
        size = chance.randint(1, 3)
        live.do(deeds[:size])
        deeds = deeds[size:]
    return live


class LogTextTest(unittest.TestCase):
    def test_by_hand(self):
        live = live_of(TORUS, BY_HAND)
        text = "".join(row + "\n" for row in ["abAB"] + ROWS)
        self.assertEqual(log_text(live), text)
        self.assertEqual(log_text(live=Live(HOLES)), "aAbB\n")
        told, good = read_log(text=text)
        self.assertEqual((told, good), (live, len(text)))
        self.assertEqual(told.steps(), live.steps())
        one = Live(TORUS)
        one.do(BY_HAND)
        self.assertEqual(log_text(one), "abAB\n" + "; ".join(ROWS) + "\n")
        self.assertEqual(read_log(log_text(one))[0].steps(), one.steps())

    def test_of_the_first_skin_and_the_steps_now_done(self):
        live = live_of(HOLES, [("slide", 1, 1), ("slide", 2, -1)])
        self.assertEqual(log_text(live), "aAbB\nslide A +\nslide b -\n")
        live.undo()
        live.mark("x")
        self.assertEqual(log_text(live), "aAbB\nslide A +\n")
        live.undo()
        self.assertEqual(log_text(live), "aAbB\n")

    def test_there_and_back(self):
        chance = chance_of(430)
        for bands in (1, 2, 2, 3, 4, 5, 6):
            for _ in range(10):
                live = chance_live(chance, chance_skin(chance, bands), chance.randint(0, 8))
                text = log_text(live)
                told, good = read_log(text)
                self.assertEqual(good, len(text))
                self.assertEqual((told, told.steps(), told.first), (live, live.steps(), live.first))
                self.assertEqual(log_text(told), text)
                self.assertEqual((type(told), type(good)), (Live, int))

    def test_errors(self):
        for thing in ODD_VALUES + NO_SKINS:
            check_error(self, BadLive, ("part", None), log_text, thing)


class ReadLogTest(unittest.TestCase):
    def test_cut_anywhere(self):
        chance = chance_of(431)
        for bands in (1, 2, 3, 6):
            for _ in range(4):
                live = chance_live(chance, chance_skin(chance, bands), 5)
                text = log_text(live)
                first = len(skin_text(live.first)) + 1
                for cut in range(len(text) + 1):
                    if cut < first:
                        check_error(self, BadText, ("at", 0), read_log, text[:cut])
                        continue
                    told, good = read_log(text[:cut])
                    whole = text[:cut].rfind("\n") + 1
                    self.assertEqual((good, log_text(told)), (whole, text[:whole]))
                    self.assertEqual(told.steps(), live.steps()[:len(told.steps())])

    def test_changed_anywhere(self):
        chance = chance_of(432)
        for _ in range(20):
            live = chance_live(chance, chance_skin(chance, chance.randint(1, 4)), 4)
            text = log_text(live)
            first = len(skin_text(live.first)) + 1
            for _ in range(20):
                at = chance.randrange(first, len(text) + 1)
                sign = chance.choice("aAbBxyz019 -+;\n.")
                other = text[:at] + chance.choice([sign, "", sign + text[at:at + 1]]) + text[at + 1:]
                told, good = read_log(other)
                self.assertEqual(log_text(told), other[:good])
                self.assertLessEqual(text[:at].rfind("\n") + 1, good)

    def test_rows_of_another_form(self):
        start = "abAB\ndraw x a\n"
        bad = [
            "", " ", "draw y", "draw y ", "draw  y a", "draw y a ", " draw y a", "draw y a b", "draw Y a", "draw y1 a",
            "draw abcdefghi a", "draw y g", "draw y 0", "draw y aA", "draw y ba", "draw x a", "wipe", "wipe y",
            "wipe x ",
            "swap 0 0", "swap 0", "swap 00 0", "swap 0 0 0", "settle ", "settle 0", "Settle", "slide a", "slide a 1",
            "slide a +1", "slide aA +", "slide c +", "slide a ++", "slide a -1", "rename", "rename aAb",
            "rename a A b B",
            "rename abAB", "rename aAbBc", "rename ", "change", "change ", "change a A b", "change a A b B ",
            "change aAbB",
            "change a A a A", "change a A  B", "twist x", "twist x +1", "twist x 01", "twist x -0", "twist x 10",
            "twist y 1", "twist x 1.0", "twist x 1;", "settle;settle", "settle;  settle", "settle ; settle", "settle; ",
            "; settle", "settle; settle;", "undo", "mark x", "names", "settle; draw x a", "settle\r", "draw y a\0",
            "twist x \u0661", "draw \u00e4 a", "twist x 99999999999999999999", "slide a \u2212", "draw y \u00e4",
        ]
        for row in bad:
            told, good = read_log(start + row + "\nsettle\n")
            self.assertEqual((good, told.steps()), (len(start), [(("draw", "x", (0,)),)]), row)
        for row in ("settle; settle", "twist x 0", "wipe x", "slide B -", "change a A b B", "draw abcdefgh aabaaB"):
            told, good = read_log(start + row + "\nsettle\n")
            self.assertEqual(good, len(start + row) + 8, row)
            self.assertEqual(log_text(told), start + row + "\nsettle\n")

    def test_a_step_is_done_whole_or_not_at_all(self):
        told, good = read_log("abAB\ndraw x a; draw y b; draw x a\nsettle\n")
        self.assertEqual((told, good), (Live(TORUS), 5))
        told, good = read_log("abAB\ndraw x a; draw y b\nwipe z\n")
        self.assertEqual((told.names, len(told.steps()), good), (("x", "y"), 1, 24))
        told.undo()
        self.assertEqual(told.names, ())
        told.redo()
        check_error(self, NotNow, None, told.redo)

    def test_first_row(self):
        bad = ["", "a", "aA", "aA ", "ab\n", "\naA\n", " aA\n", "aA \n", "aAa\n", "ba\n", "aA\r\n", "g\n", "aAbC\n"]
        for text in bad:
            check_error(self, BadText, ("at", 0), read_log, text)
        self.assertEqual(read_log("aA\n"), (Live(RING), 3))
        self.assertEqual(read_log("aA\n\n"), (Live(RING), 3))
        self.assertEqual(read_log("aA\nsettle"), (Live(RING), 3))
        six = Skin((0, 2, 4, 6, 8, 10, 1, 3, 5, 7, 9, 11))
        self.assertEqual(read_log("abcdefABCDEF\n")[0].first, six)
        for thing in NO_STRINGS:
            check_error(self, BadText, ("at", None), read_log, thing)

    def test_swap_told_by_numbers(self):
        text = "aA\ndraw x aaaaaaaaaaaa\nswap 0 10\n"
        told, good = read_log(text)
        self.assertEqual((good, told.steps()[1]), (len(text), (("swap", 0, 10),)))

    def test_deeds_by_chance_are_of_the_form(self):
        chance = chance_of(433)
        live = live_of(TORUS, [("draw", "x", (0,))])
        for _ in range(60):
            deed = chance_deed(chance, live)
            other = live.copy()
            if deed != ("swap", 0, 0) and deed[0] in ("settle", "rename", "change"):
                other.do([deed])
                self.assertEqual(read_log(log_text(other))[0], other)


if __name__ == "__main__":
    unittest.main()
