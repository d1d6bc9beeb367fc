"""Promises k87, k92, point [96]: live fans, led deed by deed, beside live skins."""

import unittest

from tautrounds.bundles import numbers_of
from tautrounds.errors import (
    BadBundle, BadImages, BadName, BadNumber, BadSkin, NotNow, RoundError, TooMany,
)
from tautrounds.fannumbers import numbers_from, numbers_on
from tautrounds.fans import first_fan, is_fan
from tautrounds.flips import flipped
from tautrounds.leads import led_bundle
from tautrounds.linked import own_crossings
from tautrounds.live import Live
from tautrounds.livefans import LiveFan
from tautrounds.overpasses import overpasses
from tautrounds.patterns import led_bridge, led_fan
from tautrounds.skins import rims
from tautrounds.twists import twist
from tests.helpers import (
    HOLES, NO_NUMBERS, NO_SKINS, ODD_VALUES, RING, TORUS, Counterfeit, chance_change, chance_numbers, chance_of,
    chance_round, chance_simple, chance_skin, check_error, own_images,
)

TOP = 10 ** 60
NO_NAMES = [None, True, 0, "", "X", "abcdefghi", "a b", "a1", b"a", ("a",), ["a"], {}, object(), Counterfeit()]


def done_anew(skin, deeds):
    """A new live fan to which deeds are done one after the other."""
    live = LiveFan(skin)
    for word, *things in deeds:
        getattr(live, word)(*things)
    return live


def chance_deed(chance, live):
    """A deed that may be done, or be refused."""
    kind = chance.choice(["lay", "lay", "lift", "flip", "flip", "flip", "lead"])
    if kind == "lay":
        return kind, chance.choice("uvwxyz"), chance_numbers(chance, live.skin, chance.choice([2, 10 ** 30]))
    if kind == "lift":
        return kind, chance.choice(live.names or ("none",))
    if kind == "flip":
        return kind, chance.randint(-1, len(live.fan))
    return kind, tuple(chance_change(chance, live.skin, 1)) if chance.randrange(6) else None


class LiveFanTest(unittest.TestCase):
    def check_told(self, live, other):
        """That two live fans tell the same, and each row is that of the bundle on the fan."""
        self.assertEqual(live, other)
        self.assertEqual((live.skin, live.fan, live.names), (other.skin, other.fan, other.names))
        self.assertIs(type(live.fan), tuple)
        self.assertEqual(live.names, tuple(sorted(live.names)))
        self.assertTrue(is_fan(live.skin, live.fan))
        for name in live.names:
            self.assertEqual(live.numbers(name), other.numbers(name))
            try:
                wanted = numbers_on(live.skin, live.fan, live.numbers(name))
            except TooMany:
                check_error(self, TooMany, ("most", TOP), live.row, name)
                continue
            self.assertEqual(live.row(name), wanted)
            self.assertEqual(numbers_from(live.skin, live.fan, wanted), live.numbers(name))

    def test_by_hand(self):
        live = LiveFan(TORUS)
        self.assertEqual((live.fan, live.names), (tuple(first_fan(TORUS)), ()))
        self.assertIsNone(live.lay("x", (1, 1, 2)))
        self.assertEqual((live.row("x"), live.numbers("x"), live.names), ((1, 2, 1), (1, 1, 2), ("x",)))
        self.assertIsNone(live.flip(1))
        self.assertEqual((live.fan, live.row("x")), (((0, (), 1), (0, (), 3), (1, (), 3)), (1, 1, 0)))
        self.assertIsNone(live.lead(twist(TORUS, (0,), 1)))
        self.assertEqual(live.numbers("x"), led_bundle(TORUS, twist(TORUS, (0,), 1), (1, 1, 2)))
        self.assertIsNone(live.undo())
        self.assertIsNone(live.undo())
        self.assertEqual(live.fan, tuple(first_fan(TORUS)))
        self.assertIsNone(live.redo())
        self.assertEqual(live.row("x"), (1, 1, 0))
        self.assertIsNone(live.lift("x"))
        self.assertEqual(live.names, ())
        check_error(self, NotNow, None, live.redo)

    def test_as_new(self):
        """All courses of deeds, refused ones, taken back and done again: as a new one with the deeds that stand."""
        chance = chance_of(1)
        refused = 0
        for _ in range(25):
            live = LiveFan(chance_skin(chance, chance.randint(2, 5)))
            done, back = [], []
            for _ in range(25):
                kind = chance.choice(["deed", "deed", "deed", "undo", "redo"])
                before = (live.fan, live.names, [live.numbers(name) for name in live.names])
                try:
                    if kind == "deed":
                        word, *things = deed = chance_deed(chance, live)
                        self.assertIsNone(getattr(live, word)(*things))
                        done, back = done + [deed], []
                    elif kind == "undo":
                        live.undo()
                        done, back = done[:-1], [done[-1]] + back
                    else:
                        live.redo()
                        done, back = done + back[:1], back[1:]
                except RoundError as error:
                    refused += 1
                    self.assertEqual((live.fan, live.names, [live.numbers(name) for name in live.names]), before)
                    if kind != "deed":
                        self.assertIs(type(error), NotNow)
                        self.assertFalse(done if kind == "undo" else back)
            self.check_told(live, done_anew(live.skin, done))
            for _ in back:
                live.redo()
            self.check_told(live, done_anew(live.skin, done + back))
            while done + back:
                live.undo()
                (back if back else done).pop()
            self.check_told(live, LiveFan(live.skin))
        self.assertGreater(refused, 100)

    def test_lead_keeps_each_bridges_number(self):
        chance = chance_of(2)
        for _ in range(30):
            live = LiveFan(chance_skin(chance, chance.randint(2, 5)))
            for name in "cab":
                live.lay(name, chance_numbers(chance, live.skin, 10 ** 20))
            for _ in range(4):
                try:
                    live.flip(chance.randrange(len(live.fan)))
                except RoundError:
                    pass
            rows = {name: dict(zip(live.fan, live.row(name))) for name in live.names}
            fan, images = live.fan, chance_change(chance, live.skin, 1)
            try:
                live.lead(images)
            except TooMany:
                continue
            self.assertEqual(list(live.fan), led_fan(live.skin, images, fan))
            for name in live.names:
                new = dict(zip(live.fan, live.row(name)))
                for bridge in fan:
                    self.assertEqual(new[led_bridge(live.skin, images, bridge)], rows[name][bridge])

    def test_equal(self):
        one, other = LiveFan(TORUS), LiveFan(TORUS)
        self.assertEqual(one, other)
        self.assertFalse(one == LiveFan(HOLES) or one == TORUS or one == list(one.fan) or one == Counterfeit)
        one.lay("x", (1, 1, 2))
        self.assertNotEqual(one, other)
        other.lay("x", (0, 1, 1))
        self.assertNotEqual(one, other)
        other.lift("x")
        other.flip(1)
        other.lay("x", (1, 1, 2))
        self.assertNotEqual(one, other)
        one.flip(1)
        self.assertEqual(one, other)
        one.undo()
        self.assertNotEqual(one, other)

    def test_eight_bundles(self):
        live = LiveFan(TORUS)
        for name in "hgfedcba":
            live.lay(name, (1, 1, 2))
        self.assertEqual(live.names, tuple("abcdefgh"))
        check_error(self, TooMany, ("most", 8), live.lay, "i", (1, 1, 2))
        check_error(self, BadBundle, ("part", "numbers"), live.lay, "i", (1, 1, 1))
        check_error(self, BadName, None, live.lay, "a", (1, 1, 1))
        live.lift("c")
        live.lay("zzzzzzzz", (0, 0, 0))
        self.assertEqual(live.names, ("a", "b", "d", "e", "f", "g", "h", "zzzzzzzz"))

    def test_bounds(self):
        live = LiveFan(TORUS)
        half = TOP // 2
        live.lay("x", (half, half, 0))
        live.flip(1)
        check_error(self, TooMany, ("most", TOP), live.row, "x")
        self.assertEqual(live.numbers("x"), (half, half, 0))
        images = [(1,), (0,), (2,), (3,)]
        before = live.fan
        check_error(self, TooMany, ("most", TOP), live.lead, images)
        self.assertEqual((live.fan, live.numbers("x")), (before, (half, half, 0)))
        live.undo()
        live.redo()
        self.assertEqual(live.fan, before)
        far = LiveFan(TORUS)
        for _ in range(4):
            far.lead(twist(TORUS, (0,), 9))
        fan = far.fan
        # The bridges are too long ahead of the bundle's being too great.
        far.lay("y", (0, half, half))
        check_error(self, TooMany, ("most", 40), far.lead, twist(TORUS, (0,), 9))
        self.assertEqual((far.fan, far.names), (fan, ("y",)))

    def test_refused(self):
        for skin in NO_SKINS:
            check_error(self, BadSkin, ("part", None), LiveFan, skin)
        check_error(self, BadSkin, ("part", "bands"), LiveFan, RING)
        live = LiveFan(skin=TORUS)
        live.lay(name="x", numbers=(1, 1, 2))
        for name in NO_NAMES + ["x"]:
            check_error(self, BadName, None, live.lay, name, None)
        for name in NO_NAMES + ["y"]:
            check_error(self, BadName, None, live.lift, name)
            check_error(self, BadName, None, live.row, name)
            check_error(self, BadName, None, live.numbers, name)
        for thing in ODD_VALUES + [(1, 1, 1), [1, 1, 2], (TOP, TOP, 0), (1, True, 2)]:
            check_error(self, BadBundle, ("part", "numbers"), live.lay, "y", thing)
        for place in NO_NUMBERS + [-1, 3]:
            check_error(self, BadNumber, ("part", "place"), live.flip, place)
        holes = LiveFan(HOLES)
        check_error(self, NotNow, None, holes.flip, 0)
        check_error(self, BadImages, None, holes.lead, [(0, 2), (3, 1), (2,), (3,)])
        for images in ODD_VALUES + [own_images(TORUS)[:3]]:
            check_error(self, BadImages, None, live.lead, images)
        check_error(self, NotNow, None, holes.undo)
        check_error(self, NotNow, None, holes.redo)
        self.assertEqual((live.names, live.row(name="x"), live.numbers(name="x")), (("x",), (1, 2, 1), (1, 1, 2)))
        live.flip(place=1)
        live.lead(images=own_images(TORUS))
        live.lift(name="x")
        self.assertEqual((live.names, live.fan), ((), tuple(flipped(TORUS, first_fan(TORUS), 1)[0])))

    def test_images_handed_in_may_be_changed_behind(self):
        live = LiveFan(TORUS)
        images = twist(TORUS, (0,), 1)
        live.lead(images)
        fan = live.fan
        images[0] = ()
        live.undo()
        live.redo()
        self.assertEqual(live.fan, fan)


class BesideTest(unittest.TestCase):
    """Live fans led beside live skins ([61], [62], [80], [86], [96])."""

    def test_beside_live_skins(self):
        chance = chance_of(3)
        done = 0
        for _ in range(30):
            skin = chance_skin(chance, chance.randint(2, 4))
            rounds, fan = Live(skin), LiveFan(skin)
            for name in "abc":
                loop = chance_simple(chance, skin, 4)
                rounds.draw(name, loop)
                fan.lay(name, numbers_of(skin, [loop]))
            rounds.draw("z", chance_round(chance, skin, 5))
            numbers = [rounds.number("z", name) for name in "abc"]
            for _ in range(3):
                images = tuple(chance_change(chance, skin, 1))
                ahead = (fan.fan, [overpasses(skin, bridge, rounds.loop("z")) for bridge in fan.fan])
                try:
                    rounds.change(images)
                except TooMany:
                    continue
                try:
                    fan.lead(images)
                except TooMany:
                    rounds.undo()
                    continue
                done += 1
                for name in "abc":
                    loop = rounds.loop(name)
                    self.assertEqual(own_crossings(skin, loop), 0)
                    self.assertEqual(fan.numbers(name), numbers_of(skin, [loop]))
                    wanted = tuple(overpasses(skin, bridge, loop) for bridge in fan.fan)
                    self.assertEqual(fan.row(name), wanted)
                for bridge, many in zip(*ahead):
                    self.assertEqual(overpasses(skin, led_bridge(skin, images, bridge), rounds.loop("z")), many)
            self.assertEqual([rounds.number("z", name) for name in "abc"], numbers)
        self.assertGreater(done, 30)

    def test_rims_stand_on_each_fan_as_their_ends_tell(self):
        chance = chance_of(4)
        for _ in range(30):
            live = LiveFan(chance_skin(chance, chance.randint(2, 6)))
            around = rims(live.skin)[:8]
            for name, rim in zip("abcdefgh", around):
                live.lay(name, numbers_of(live.skin, [rim]))
            for _ in range(8):
                try:
                    live.flip(chance.randrange(len(live.fan)))
                except RoundError:
                    pass
            for name, rim in zip("abcdefgh", around):
                ends = tuple((live.skin.row[start] in rim) + (live.skin.row[end] in rim) for start, _, end in live.fan)
                self.assertEqual(live.row(name), ends)


if __name__ == "__main__":
    unittest.main()
