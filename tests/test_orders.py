"""Promise [65]: sequences of deeds that may change places."""

import unittest

from tautrounds.errors import BadDeed, BadNumber, BadSkin, RoundError
from tautrounds.live import Live
from tautrounds.linked import crossings
from tautrounds.orders import may_change, orders
from tautrounds.rounds import along
from tautrounds.skins import rims
from tests.helpers import (
    NO_NUMBERS, NO_SKINS, ODD_VALUES, RING, TORUS, chance_apart, chance_deed, chance_deeds, chance_of, chance_round,
    chance_simple, chance_skin, check_error, forward_rims, live_of,
)
from tests.test_steps import NO_DEEDS, THREE

BY_HAND = [("draw", "x", (0,)), ("draw", "y", (2,)), ("settle",)]
SIX = [("settle",)] * 6


def tried(skin, deeds):
    """The live skin behind the deeds; None if one is refused."""
    try:
        return live_of(skin, deeds)
    except RoundError:
        return None


def may_change_by_words(skin, deeds, at):
    other = deeds[:at] + [deeds[at + 1], deeds[at]] + deeds[at + 2:]
    if tried(skin, other) is None:
        return False
    return live_of(skin, other[:at + 2]) == live_of(skin, deeds[:at + 2])


def orders_by_words(skin, deeds):
    found = [tuple(range(len(deeds)))]
    for places in found:
        for at in range(len(places) - 1):
            other = places[:at] + (places[at + 1], places[at]) + places[at + 2:]
            if other not in found and may_change_by_words(skin, [deeds[place] for place in places], at):
                found.append(other)
    return sorted(found)


class OrdersTest(unittest.TestCase):
    def test_by_hand(self):
        self.assertEqual(orders(TORUS, BY_HAND), [(0, 1, 2), (0, 2, 1), (2, 0, 1)])
        self.assertEqual(orders(skin=TORUS, deeds=tuple(BY_HAND)), [(0, 1, 2), (0, 2, 1), (2, 0, 1)])
        self.assertIs(may_change(TORUS, BY_HAND, 0), False)
        self.assertIs(may_change(skin=TORUS, deeds=tuple(BY_HAND), at=1), True)

    def test_by_words(self):
        chance = chance_of(390)
        many = []
        for bands in (1, 2, 2, 2, 3, 4, 6):
            for _ in range(8):
                skin = chance_skin(chance, bands)
                deeds = chance_deeds(chance, skin, chance.randint(2, 5))
                told = orders(skin, deeds)
                self.assertEqual(told, orders_by_words(skin, deeds))
                many.append(len(told))
                for at in range(len(deeds) - 1):
                    self.assertIs(may_change(skin, deeds, at), may_change_by_words(skin, deeds, at))
                wanted = live_of(skin, deeds)
                for places in told:
                    self.assertEqual(live_of(skin, [deeds[place] for place in places]), wanted)
        self.assertGreater(len(set(many)), 4)

    def test_leads_and_twists(self):
        chance = chance_of(391)
        seen = 0
        for bands in (2, 2, 3, 4, 5):
            for _ in range(30):
                skin = chance_skin(chance, bands)
                ahead = [("draw", "x", chance_simple(chance, skin, 3)), ("draw", "y", chance_round(chance, skin, 2))]
                deed = chance_deed(chance, live_of(skin, ahead))
                one = ("twist", "x", chance.choice([-1, 1]))
                for pair in ([deed, one], [one, deed]):
                    if deed[0] in ("slide", "rename", "change") and tried(skin, ahead + pair) is not None:
                        if tried(skin, ahead + pair[::-1]) is None:
                            continue
                        self.assertTrue(deed[0] != "change" or forward_rims(skin, deed[1]))
                        self.assertIs(may_change(skin, ahead + pair, 2), True)
                        seen += 1
        self.assertGreater(seen, 20)

    def test_two_twists(self):
        chance = chance_of(392)
        seen = []
        for bands in (2, 2, 3, 4, 5):
            for _ in range(12):
                skin = chance_skin(chance, bands)
                x, y = chance_simple(chance, skin, 3), chance_simple(chance, skin, 3)
                ahead = [("draw", "x", x), ("draw", "y", y), ("draw", "z", chance_round(chance, skin, 2))]
                pair = [("twist", "x", 1), ("twist", "y", -1)]
                if tried(skin, ahead + pair) is not None and tried(skin, ahead + pair[::-1]) is not None:
                    seen.append(crossings(skin, x, y) == 0)
                    if seen[-1]:
                        self.assertIs(may_change(skin, ahead + pair, 3), True)
        self.assertGreater(seen.count(True), 20)
        self.assertIs(may_change(TORUS, THREE + [("twist", "x", 1), ("twist", "y", 1)], 3), False)

    def test_two_swaps(self):
        ahead = [("draw", "x", (0, 2)), ("draw", "y", (0, 2)), ("draw", "z", (0, 2)), ("draw", "w", (0, 2))]
        for one in ((0, 0), (0, 1), (0, 2), (1, 0), (1, 2)):
            for other in ((0, 0), (0, 1), (0, 2), (1, 1)):
                deeds = ahead + [("swap",) + one, ("swap",) + other]
                is_near = one[0] == other[0] and abs(one[1] - other[1]) == 1
                self.assertIs(may_change(TORUS, deeds, 4), not is_near)

    def test_a_twist_and_a_wipe(self):
        chance = chance_of(393)
        seen = 0
        for bands in (2, 3, 4, 6):
            for _ in range(12):
                skin = chance_skin(chance, bands)
                rounds = [chance_simple(chance, skin, 3), chance_round(chance, skin, 3), chance_round(chance, skin, 3)]
                if any(along(skin, rounds[i], rounds[j]) for i, j in ((0, 1), (0, 2), (1, 2))):
                    continue
                ahead = [("draw", name, loop) for name, loop in zip("xyz", rounds)]
                for pair in ([("twist", "x", 1), ("wipe", "y")], [("wipe", "z"), ("twist", "x", -1)]):
                    if tried(skin, ahead + pair) is not None and tried(skin, ahead + pair[::-1]) is not None:
                        self.assertIs(may_change(skin, ahead + pair, 3), True)
                        seen += 1
        self.assertGreater(seen, 20)
        self.assertIs(may_change(TORUS, THREE + [("twist", "x", 1), ("wipe", "x")], 3), False)

    def test_refused_later_on_the_other_way(self):
        # Wiping y ahead of the drawing in lets it in as the eighth one; the other way there are eight already.
        ahead = [("draw", name, (0,)) for name in "abcdefgh"]
        self.assertIs(may_change(TORUS, ahead + [("wipe", "h"), ("draw", "i", (0,))], 8), False)
        self.assertIs(may_change(TORUS, ahead[:7] + [("wipe", "a"), ("draw", "i", (0,))], 7), True)

    def test_one_two_seven_eight_twelve_thirteen(self):
        settles = [("settle",)] * 14
        self.assertEqual(orders(TORUS, settles[:1]), [(0,)])
        self.assertEqual(orders(TORUS, settles[:2]), [(0, 1), (1, 0)])
        self.assertEqual(len(orders(TORUS, SIX + [("draw", "x", (0,))])), 5040)
        check_error(self, BadDeed, None, orders, TORUS, settles[:8])
        check_error(self, BadDeed, None, orders, TORUS, [])
        check_error(self, BadDeed, None, may_change, TORUS, settles[:1], 0)
        check_error(self, BadDeed, None, may_change, TORUS, [], None)
        self.assertIs(may_change(TORUS, settles[:2], 0), True)
        self.assertIs(may_change(TORUS, settles[:12], 10), True)
        check_error(self, BadDeed, None, may_change, TORUS, settles[:13], 0)

    def test_errors_in_sequence(self):
        for skin in NO_SKINS:
            check_error(self, BadSkin, ("part", None), orders, skin, None)
            check_error(self, BadSkin, ("part", None), may_change, skin, None, None)
        bad = ODD_VALUES + [[deed, ("settle",)] for deed in NO_DEEDS] + [
            [("draw", "x", (0,)), ("wipe", "y")], [("draw", None, None), ("settle",)], [("settle",), ("slide", 9, 1)],
            [("draw", "x", (0,)), ("draw", "x", (0,))], iter(BY_HAND), [("settle",), ("change", [(), (), (), ()])],
        ]
        for deeds in bad:
            check_error(self, BadDeed, None, orders, TORUS, deeds)
            check_error(self, BadDeed, None, may_change, TORUS, deeds, None)
        for at in NO_NUMBERS + [-1, 2]:
            check_error(self, BadNumber, ("part", "at"), may_change, TORUS, BY_HAND, at)

    def test_what_is_handed_in_stays(self):
        deeds = [("rename", [2, 3, 0, 1]), ("change", [(0, 2), (3, 1), (2,), (3,)]), ("settle",)]
        told = orders(TORUS, deeds)
        told.append(None)
        self.assertEqual(orders(TORUS, deeds), told[:-1])
        may_change(TORUS, deeds, 0)
        self.assertEqual(deeds, [("rename", [2, 3, 0, 1]), ("change", [(0, 2), (3, 1), (2,), (3,)]), ("settle",)])

    def test_ring(self):
        deeds = [("draw", "x", (0,)), ("rename", (1, 0)), ("twist", "x", 3), ("settle",)]
        self.assertEqual(orders(RING, deeds), orders_by_words(RING, deeds))
        self.assertEqual(rims(RING), [(0,), (1,)])
        self.assertEqual(Live(RING).first, RING)
        self.assertEqual(len(chance_apart(chance_of(394), RING, 2, 1)), 2)


if __name__ == "__main__":
    unittest.main()
