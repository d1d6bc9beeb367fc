"""Promises [2] (i), [60], [61], [62]: live skins, and the deeds that change them."""

import unittest

from tautrounds.best import best_drawing
from tautrounds.drawings import Drawing, crossed_number
from tautrounds.errors import (
    BadImages, BadName, BadNumber, BadRound, BadSkin, NotNow, NotSimple, RoundError, TooMany,
)
from tautrounds.linked import crossings, fewest, own_crossings
from tautrounds.live import Live
from tautrounds.pieces import fills
from tautrounds.pushes import exchanged
from tautrounds.rounds import along
from tautrounds.simple import is_simple
from tautrounds.skins import Skin, renamed
from tautrounds.slides import slid
from tautrounds.twists import twist
from tests.helpers import (
    HOLES, NO_NUMBERS, NO_SKINS, ODD_VALUES, RING, TORUS, Counterfeit, chance_change, chance_deed, chance_of,
    chance_renaming, chance_round, chance_simple, chance_skin, check_error, forward_rims, images_from, led_round,
    live_of, own_images,
)
from tests.test_changes import A_CHANGE, NO_IMAGES
from tests.test_linked import NO_ROUNDS
from tests.test_slides import slides_of

NO_NAMES = ODD_VALUES + [
    "X", "x1", "x y", "abcdefghi", "aB", "x\n", "\u00e9", "a.b", b"x", ("x",), ["x"], Counterfeit(), "x ", "_",
]


def everything(live):
    """All that a live skin tells, but for what asks."""
    return (
        live.first.row, live.skin.row, live.names, live.drawing.rounds, live.drawing.rows, live.steps(), live.marks(),
        [live.loop(name) for name in live.names],
    )


def check_refused(case, live, error, wanted, act, *parts):
    """That the deed is refused by this error, and changes nothing, not what can be done again either."""
    before = everything(live)
    check_error(case, error, wanted, act, *parts)
    case.assertEqual(everything(live), before)
    other = live.copy()
    redone = 0
    while True:
        try:
            other.redo()
        except NotNow:
            break
        redone += 1
    return redone


class FirstTest(unittest.TestCase):
    def test_attributes(self):
        live = Live(TORUS)
        self.assertEqual((live.first, live.skin, live.names), (TORUS, TORUS, ()))
        self.assertEqual(live.drawing, Drawing(TORUS, [], [[], []]))
        self.assertEqual((live.steps(), live.marks()), ([], {}))
        self.assertEqual((live.fewest(), live.crossed(), live.over()), (0, 0, 0))
        self.assertIs(type(live.names), tuple)
        self.assertEqual(Live(skin=TORUS, cross=None), live)
        for skin in NO_SKINS:
            check_error(self, BadSkin, ("part", None), Live, skin)
            check_error(self, BadSkin, ("part", None), Live, skin, None)

    def test_draw_and_loop(self):
        live = Live(HOLES)
        self.assertIs(live.draw("x", (0,)), None)
        self.assertIs(live.draw(name="abcdefgh", loop=(0, 2)), None)
        self.assertIs(live.draw("y", (0, 3)), None)
        self.assertEqual(live.names, ("x", "abcdefgh", "y"))
        self.assertEqual(live.drawing, Drawing(HOLES, [(0,), (0, 2), (0, 3)], [
            [(0, 0), (1, 0), (2, 0)], [(1, 1), (2, 1)],
        ]))
        self.assertEqual((live.loop("abcdefgh"), live.loop(name="x")), ((0, 2), (0,)))
        live.draw("z", (0, 2, 0, 3))
        self.assertEqual(live.drawing.rows[0][3:], ((3, 0), (3, 2)))

    def test_wipe(self):
        live = Live(HOLES)
        for name, loop in (("x", (0,)), ("y", (0, 2)), ("z", (0, 3))):
            live.draw(name, loop)
        live.swap(0, 1)
        self.assertIs(live.wipe("x"), None)
        self.assertEqual(live.names, ("y", "z"))
        self.assertEqual(live.drawing, Drawing(HOLES, [(0, 2), (0, 3)], [[(1, 0), (0, 0)], [(0, 1), (1, 1)]]))
        live.wipe(name="z")
        self.assertEqual(live.drawing, Drawing(HOLES, [(0, 2)], [[(0, 0)], [(0, 1)]]))
        live.draw("x", (2,))
        self.assertEqual(live.names, ("y", "x"))
        live.wipe("y")
        live.wipe("x")
        self.assertEqual(live, Live(HOLES))

    def test_swap_and_settle(self):
        chance = chance_of(370)
        for bands in (1, 2, 3, 6):
            skin = chance_skin(chance, bands)
            live = Live(skin)
            for name in "xyz":
                live.draw(name, chance_round(chance, skin, 6))
            for _ in range(6):
                drawing = live.drawing
                band = chance.randrange(bands)
                place = chance.randrange(max(1, len(drawing.rows[band]) - 1))
                if len(drawing.rows[band]) > 1:
                    self.assertIs(live.swap(band=band, place=place), None)
                    self.assertEqual(live.drawing, exchanged(drawing, band, place))
            self.assertIs(live.settle(), None)
            self.assertEqual(live.drawing, best_drawing(skin, drawing.rounds))
            self.assertEqual(live.over(), 0)

    def test_equal(self):
        one, other = Live(TORUS), Live(TORUS)
        one.draw("x", (0,))
        self.assertFalse(one == other)
        self.assertTrue(one != other)
        other.do([("draw", "y", (2,)), ("draw", "x", (0,)), ("wipe", "y")])
        other.mark("here")
        self.assertTrue(one == other)
        self.assertFalse(one == live_of(TORUS, [("draw", "y", (0,))]))
        self.assertFalse(one == live_of(TORUS, [("draw", "x", (1,))]))
        self.assertFalse(one == live_of(HOLES, [("draw", "x", (0,))]))
        ahead = [("draw", "x", (0,)), ("draw", "y", (0,))]
        self.assertFalse(live_of(TORUS, ahead) == live_of(TORUS, ahead + [("swap", 0, 0)]))
        for thing in ODD_VALUES + NO_SKINS + [one.drawing, one.skin, one.names]:
            self.assertFalse(one == thing)
            self.assertTrue(one != thing)

    def test_two_have_no_effect_on_one_another(self):
        one, other = Live(TORUS), Live(TORUS)
        one.draw("x", (0,))
        one.mark("here")
        self.assertEqual(everything(other), everything(Live(TORUS)))
        other.draw("y", (2,))
        self.assertEqual(one.names, ("x",))
        check_error(self, BadName, None, other.loop, "x")


class RefusedTest(unittest.TestCase):
    def filled(self):
        """A live skin with two steps done and one taken back."""
        live = Live(TORUS)
        live.draw("x", (0,))
        live.draw("y", (0, 0, 2, 2))
        live.mark("here")
        live.draw("z", (0,))
        live.undo()
        return live

    def check(self, error, wanted, name, *parts):
        live = self.filled()
        self.assertEqual(check_refused(self, live, error, wanted, getattr(live, name), *parts), 1)
        live.redo()
        self.assertEqual(live.names, ("x", "y", "z"))

    def test_names(self):
        for name in NO_NAMES:
            self.check(BadName, None, "draw", name, None)
            for act in ("wipe", "loop", "number"):
                self.check(BadName, None, act, name)
            self.check(BadName, None, "twist", name, None)
        self.check(BadName, None, "draw", "x", None)
        for act in ("wipe", "loop", "number"):
            self.check(BadName, None, act, "z")
        self.check(BadName, None, "twist", "z", None)
        self.check(BadName, None, "mark", "abcdefghi")
        self.check(BadName, None, "mark", "")

    def test_rounds(self):
        for loop in NO_ROUNDS:
            self.check(BadRound, None, "draw", "z", loop)
        self.check(BadRound, None, "draw", "z", (0,) * 41)

    def test_eight_rounds_and_a_ninth(self):
        live = Live(TORUS)
        for name in "abcdefgh":
            live.draw(name, (0, 2))
        check_refused(self, live, TooMany, ("most", 8), live.draw, "i", (0,))
        check_refused(self, live, BadName, None, live.draw, "a", None)
        check_refused(self, live, BadRound, None, live.draw, "i", None)
        check_refused(self, live, TooMany, ("most", 8), live.draw, "i", (0,) * 40)
        live.wipe("c")
        live.draw("i", (0,) * 40)
        self.assertEqual(live.names, tuple("abdefghi"))

    def test_80_letters_and_one_more(self):
        live = Live(TORUS)
        live.draw("x", (0,) * 40)
        check_refused(self, live, BadRound, None, live.draw, "y", (0,) * 41)
        live.draw("y", (2,) * 40)
        self.assertEqual(sum(map(len, live.drawing.rounds)), 80)
        check_refused(self, live, TooMany, ("most", 80), live.draw, "z", (0,))
        live.wipe("y")
        live.draw("y", (2,) * 39)
        live.draw("z", (0,))
        check_refused(self, live, TooMany, ("most", 80), live.draw, "w", (0,))

    def test_eight_ahead_of_80(self):
        live = Live(TORUS)
        for name in "abcdefgh":
            live.draw(name, (0, 2) * 5)
        check_refused(self, live, TooMany, ("most", 8), live.draw, "i", (0,))

    def test_swap(self):
        for number in NO_NUMBERS + [-1, 2]:
            self.check(BadNumber, ("part", "band"), "swap", number, None)
        for number in NO_NUMBERS + [-1, 2]:
            self.check(BadNumber, ("part", "place"), "swap", 0, number)
        check_error(self, BadNumber, ("part", "place"), Live(TORUS).swap, 0, 0)

    def test_slide(self):
        for number in NO_NUMBERS + [-1, 4]:
            self.check(BadNumber, ("part", "end"), "slide", number, None)
        for number in NO_NUMBERS + [0, 2, -2]:
            self.check(BadNumber, ("part", "side"), "slide", 0, number)
        live = live_of(HOLES, [("draw", "x", (0,))])
        check_refused(self, live, NotNow, None, live.slide, 0, 1)
        check_refused(self, live, BadNumber, ("part", "side"), live.slide, 0, 3)

    def test_rename_and_change(self):
        bad = ODD_VALUES + [
            [0, 1, 2], [0, 2, 1, 3], [0, 1, 2, 2], [0, 1, 2, True], (0, 1, 2, 3, 4), [1, 0, 2, 4], "0123",
            [0, 1, 2, 3.0], {0: 0, 1: 1, 2: 2, 3: 3}, Counterfeit(),
        ]
        for letters in bad:
            self.check(BadNumber, ("part", "letters"), "rename", letters)
        for images in NO_IMAGES:
            self.check(BadImages, None, "change", images)
        self.check(BadImages, None, "change", images_from([(0,), (0,)]))
        live = live_of(HOLES, [("draw", "x", (0,))])
        check_refused(self, live, BadImages, None, live.change, A_CHANGE)
        # What a change is handed has at most 200 letters an image, though a twist may lead by longer ones.
        self.check(BadImages, None, "change", images_from([(2,) * 200 + (0,), (2,)]))

    def test_twist(self):
        self.check(NotSimple, None, "twist", "y", None)
        for times in NO_NUMBERS + [-10, 10]:
            self.check(BadNumber, ("part", "times"), "twist", "x", times)
        live = live_of(HOLES, [("draw", "x", (0, 3))])
        check_refused(self, live, NotSimple, None, live.twist, "x", 10)

    def test_letters_of_led_rounds(self):
        live = Live(TORUS)
        live.draw("x", (0,))
        live.draw("y", (2,) * 4)
        live.twist("x", 9)
        self.assertEqual(len(live.loop("y")), 40)
        check_refused(self, live, TooMany, ("most", 40), live.twist, "x", 9)
        check_refused(self, live, TooMany, ("most", 40), live.twist, "x", 1)
        live.draw("z", (2,) * 35)
        check_refused(self, live, TooMany, ("most", 40), live.change, images_from([(0,), (0, 2)]))
        check_refused(self, live, TooMany, ("most", 40), live.slide, 2, -1)
        check_refused(self, live, BadNumber, ("part", "times"), live.twist, "x", 10)

    def test_80_letters_of_led_rounds(self):
        live = Live(TORUS)
        live.draw("x", (0,))
        for name in "abc":
            live.draw(name, (2,) * 13)
        check_refused(self, live, TooMany, ("most", 80), live.twist, "x", 2)
        check_refused(self, live, TooMany, ("most", 40), live.twist, "x", 3)
        live.wipe("c")
        live.twist("x", 2)
        self.assertEqual([len(live.loop(name)) for name in "xab"], [1, 39, 39])
        live.draw("c", (0,))
        check_refused(self, live, TooMany, ("most", 40), live.twist, "x", 1)
        live.wipe("c")
        live.twist("x", -2)
        self.assertEqual(live.loop("a"), (2,) * 13)

    def test_40_letters_exactly(self):
        live = live_of(TORUS, [("draw", "x", (0,)), ("draw", "y", (2,) * 20)])
        live.twist("x", 1)
        self.assertEqual(len(live.loop("y")), 40)
        live.draw("z", (0, 2) * 19)
        live.draw("w", (0,))
        check_refused(self, live, TooMany, ("most", 40), live.twist, "x", 1)
        live = live_of(TORUS, [("draw", "x", (0,)), ("draw", "y", (2,) * 20), ("draw", "z", (2,) * 19)])
        live.draw("w", (1,))
        live.twist("x", 1)
        self.assertEqual(sum(map(len, live.drawing.rounds)), 80)

    def test_long_twists_may_lead_to_short_rounds(self):
        # The twist's own images have more than 200 letters, and more than a round may have.
        live = live_of(TORUS, [("draw", "x", (0,) * 39 + (2,)), ("draw", "y", (0,) * 39 + (2,))])
        check_error(self, TooMany, ("most", 200), twist, TORUS, (0,) * 39 + (2,), 9)
        live.twist("x", 9)
        self.assertEqual((live.loop("x"), live.loop("y")), ((0,) * 39 + (2,),) * 2)
        self.assertEqual(live.steps()[-1], (("twist", "x", 9),))


class LeadTest(unittest.TestCase):
    def test_led_rounds(self):
        chance = chance_of(371)
        for bands in (1, 2, 2, 3, 4, 5, 6):
            for _ in range(10):
                skin = chance_skin(chance, bands)
                rounds = [chance_simple(chance, skin, 3)] + [chance_round(chance, skin, 3) for _ in range(2)]
                deeds = [("draw", name, loop) for name, loop in zip("xyz", rounds)] + [("settle",)]
                letters = chance_renaming(chance, bands)
                change = chance_change(chance, skin, 1)
                led = [
                    (("rename", letters), renamed(skin, letters), [(letter,) for letter in letters]),
                    (("change", change), skin, change),
                    (("twist", "x", -1), skin, twist(skin, rounds[0], -1)),
                ]
                for end, side in slides_of(skin)[:3]:
                    led.append((("slide", end, side),) + slid(skin, end, side))
                for deed, other, images in led:
                    live = live_of(skin, deeds)
                    wanted = [led_round(skin, images, loop) for loop in rounds]
                    if max(map(len, wanted)) <= 40 and sum(map(len, wanted)) <= 80:
                        self.assertIs(getattr(live, deed[0])(*deed[1:]), None)
                        self.assertEqual((live.first, live.skin), (skin, other))
                        self.assertEqual(live.drawing, best_drawing(other, wanted))
                        self.assertEqual(live.names, ("x", "y", "z"))
                        self.assertEqual(live.over(), 0)

    def test_the_drawing_is_the_best_one_also_where_all_stays(self):
        deeds = [("draw", "x", (0,)), ("draw", "y", (0, 2)), ("draw", "z", (0, 2))]
        chance = chance_of(372)
        for deed in (("change", own_images(TORUS)), ("rename", [0, 1, 2, 3]), ("twist", "x", 0)):
            live = live_of(TORUS, deeds)
            for _ in range(4):
                live.swap(0, chance.randrange(2))
            live.do([deed])
            self.assertEqual(live.drawing, best_drawing(TORUS, [(0,), (0, 2), (0, 2)]))

    def test_by_their_names(self):
        live = live_of(TORUS, [("draw", "x", (0,)), ("draw", "y", (2,))])
        live.twist(name="x", times=1)
        self.assertEqual(live.loop("y"), (1, 2))
        live.slide(end=0, side=1)
        live.rename(letters=[2, 3, 0, 1])
        live.change(images=A_CHANGE)
        self.assertEqual(len(live.steps()), 6)
        self.assertEqual(live.number(name="x", other="y"), 1)
        self.assertEqual(live.number(name="x"), 0)

    def test_numbers_are_kept(self):
        chance = chance_of(373)
        done = 0
        for bands in (1, 2, 2, 3, 4, 5, 6):
            for _ in range(8):
                skin = chance_skin(chance, bands)
                live = Live(skin)
                for name in "wxyz":
                    live.draw(name, chance_round(chance, skin, 4))
                before = self.numbers(live)
                for _ in range(6):
                    deed = chance_deed(chance, live)
                    if deed[0] in ("slide", "rename", "change", "twist"):
                        try:
                            live.do([deed])
                        except RoundError:
                            continue
                        done += 1
                        self.assertEqual(self.numbers(live), before)
                        self.assertEqual(live.over(), 0)
        self.assertGreater(done, 60)

    def numbers(self, live):
        """What must stay, by the package's own functions."""
        skin, rounds = live.skin, live.drawing.rounds
        return (
            [own_crossings(skin, loop) for loop in rounds], [is_simple(skin, loop) for loop in rounds],
            [(crossings(skin, one, other), along(skin, one, other)) for one in rounds for other in rounds],
            fills(skin, rounds),
        )

    def test_by_names_in_either_sequence(self):
        chance = chance_of(374)
        tried = {"slide": 0, "rename": 0, "change": 0}
        for bands in (2, 2, 3, 4, 5, 6):
            for _ in range(30):
                skin = chance_skin(chance, bands)
                deeds = [("draw", "x", chance_simple(chance, skin, 3)), ("draw", "y", chance_round(chance, skin, 3))]
                deed = chance_deed(chance, live_of(skin, deeds))
                if deed[0] not in tried:
                    continue
                times = chance.choice([-2, -1, 1, 2])
                both = self.either_way(skin, deeds, [deed], [("twist", "x", times)], [("twist", "x", times)])
                tried[deed[0]] += both
        self.assertTrue(min(tried.values()) > 5, tried)

    def either_way(self, skin, deeds, one, ahead, behind):
        """Compares ahead and then one with one and then behind; whether both could be done."""
        try:
            there, here = live_of(skin, deeds + ahead + one), live_of(skin, deeds + one + behind)
        except RoundError:
            return False
        self.assertEqual(there, here)
        return True

    def test_a_change_that_turns_rims_turns_the_twist(self):
        chance = chance_of(375)
        turn = [(1,), (0,), (2,), (3,)]
        self.assertFalse(forward_rims(TORUS, turn))
        tried = 0
        for _ in range(20):
            deeds = [("draw", "x", chance_simple(chance, TORUS, 3)), ("draw", "y", chance_round(chance, TORUS, 3))]
            times = chance.choice([-2, -1, 1, 2])
            ahead, behind = [("twist", "x", times)], [("twist", "x", -times)]
            tried += self.either_way(TORUS, deeds, [("change", turn)], ahead, behind)
        self.assertGreater(tried, 10)


class NumberTest(unittest.TestCase):
    def test_by_chance(self):
        chance = chance_of(376)
        for bands in (1, 2, 2, 3, 4, 5, 6):
            for _ in range(6):
                skin = chance_skin(chance, bands)
                rounds = [chance_round(chance, skin, 6) for _ in range(4)]
                live = live_of(skin, [("draw", name, loop) for name, loop in zip("dcba", rounds)])
                for name, one in zip("dcba", rounds):
                    self.assertEqual(live.number(name), own_crossings(skin, one))
                    self.assertEqual(live.number(name, None), own_crossings(skin, one))
                    for other_name, other in zip("dcba", rounds):
                        if name != other_name:
                            self.assertEqual(live.number(name, other_name), crossings(skin, one, other))
                self.assertEqual(live.fewest(), fewest(skin, rounds))
                self.assertEqual(live.crossed(), crossed_number(live.drawing))
                self.assertEqual(live.over(), live.crossed() - live.fewest())
                self.assertGreaterEqual(live.over(), 0)

    def test_equal_rounds_of_two_names(self):
        live = live_of(HOLES, [("draw", "x", (0, 3)), ("draw", "y", (0, 3))])
        self.assertEqual((live.number("x"), live.number("x", "y"), live.fewest()), (1, 2, 4))

    def test_bad_names(self):
        live = live_of(TORUS, [("draw", "x", (0,)), ("draw", "y", (2,))])
        for name in NO_NAMES + ["z"]:
            check_error(self, BadName, None, live.number, name)
            check_error(self, BadName, None, live.number, name, "x")
            if name is not None:
                check_error(self, BadName, None, live.number, "x", name)
        check_error(self, BadName, None, live.number, "x", "x")


class CopyTest(unittest.TestCase):
    def test_copy(self):
        live = Live(TORUS)
        live.draw("x", (0,))
        live.mark("one")
        live.draw("y", (2,))
        live.mark("two")
        live.twist("x", 1)
        live.undo()
        other = live.copy()
        self.assertEqual(everything(other), everything(live))
        self.assertTrue(other == live and other is not live)
        self.assertEqual(other.first, TORUS)
        other.redo()
        self.assertEqual(other.loop("y"), (1, 2))
        self.assertEqual(live.loop("y"), (2,))
        other.to("one")
        other.settle()
        other.mark("three")
        self.assertEqual(other.marks(), {"one": 1, "three": 2})
        self.assertEqual(live.marks(), {"one": 1, "two": 2})
        live.redo()
        self.assertEqual(live.loop("y"), (1, 2))
        check_error(self, NotNow, None, other.redo)
        live.wipe("x")
        self.assertEqual(other.names, ("x",))

    def test_first_is_kept(self):
        live = Live(Skin((0, 1, 2, 3)))
        live.slide(1, 1)
        other = live.copy()
        self.assertEqual((other.first.row, other.skin.row), ((0, 1, 2, 3), (0, 2, 3, 1)))
        other.undo()
        self.assertEqual(other, Live(HOLES))
        self.assertEqual(live.skin.row, (0, 2, 3, 1))

    def test_ring(self):
        live = live_of(RING, [("draw", "x", (0, 0)), ("draw", "y", (1,))])
        self.assertEqual((live.fewest(), live.over()), (1, 0))
        live.rename([1, 0])
        self.assertEqual(live.drawing.rounds, ((1, 1), (0,)))
        live.twist("y", 9)
        self.assertEqual(live.drawing.rounds, ((1, 1), (0,)))


if __name__ == "__main__":
    unittest.main()
