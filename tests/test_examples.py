"""Promise k77: every example by hand of the document, point by point."""

import unittest

from tautrounds.best import best_drawing
from tautrounds.brackets import bracket
from tautrounds.bridges import bridge_of
from tautrounds.bundles import bundle_of, is_bundle, joined, numbers_of
from tautrounds.cuts import sides
from tautrounds.drawings import Drawing, crossed, crossed_number
from tautrounds.errors import BadNumber, BadText, NotNow, TooMany
from tautrounds.fannumbers import numbers_on
from tautrounds.fans import first_fan, triangles
from tautrounds.flips import flipped
from tautrounds.leads import slid_bundle, twisted_bundle
from tautrounds.lines import stretch
from tautrounds.linked import crossings, linked_pairs, own_pairs
from tautrounds.live import Live
from tautrounds.logs import log_text, read_log
from tautrounds.orbits import orbit_kinds, orbit_many, same_orbit
from tautrounds.orders import may_change, orders
from tautrounds.overpasses import bridges_crossed, overpasses
from tautrounds.patches import patches
from tautrounds.patterns import pattern, symmetries
from tautrounds.pieces import fills, free_round, inner_discs, pieces
from tautrounds.pushes import exchanged, is_way, rise
from tautrounds.roundkinds import kinds
from tautrounds.rounds import along, root_of, round_of
from tautrounds.skins import Skin, genus, least_skin, next_end, rims
from tautrounds.slides import is_plain_way, led, plain_skin, slid
from tautrounds.splits import split
from tautrounds.strips import crossed_by, rim_times
from tautrounds.twists import twist
from tautrounds.wordtexts import read_round, read_word
from tests.helpers import HOLES, RING, TORUS, check_error

FIRST = [(0, (), 1), (0, (), 2), (0, (), 3)]


class SkinsAndRounds(unittest.TestCase):
    def test_10(self):
        self.assertEqual((rims(RING), genus(RING)), ([(0,), (1,)], 0))
        self.assertEqual((rims(TORUS), genus(TORUS)), ([(0, 3, 1, 2)], 1))
        self.assertEqual([next_end(TORUS, end) for end in (1, 0, 3, 2)], [3, 2, 0, 1])
        self.assertEqual(rims(Skin((0, 3, 1, 2))), [(0, 2, 1, 3)])
        self.assertEqual((rims(HOLES), genus(HOLES)), ([(0, 2), (1,), (3,)], 0))
        self.assertEqual(least_skin(HOLES), HOLES)
        self.assertEqual(least_skin(Skin((0, 2, 3, 1))), HOLES)

    def test_12(self):
        self.assertEqual(round_of(TORUS, (1, 2, 0, 2, 0)), (0, 2, 2))
        self.assertEqual(root_of(HOLES, (0, 2, 0, 2)), ((0, 2), 2))
        self.assertIs(along(HOLES, (0, 2), (1, 3)), True)

    def test_13(self):
        skin, images = slid(HOLES, 1, 1)
        self.assertEqual((skin.row, images), ((0, 2, 3, 1), [(0, 3), (2, 1), (2,), (3,)]))
        self.assertEqual(led(HOLES, images, (0, 2)), (0,))
        self.assertEqual(round_of(skin, led(HOLES, images, (1,))), (1, 2))
        self.assertEqual(rims(skin), [(0,), (1, 2), (3,)])
        self.assertEqual(slid(TORUS, 0, 1), (TORUS, [(2, 0), (1, 3), (2,), (3,)]))
        way = [("slide", 1, -1), ("rename", (0, 1, 2, 3))]
        self.assertTrue(is_plain_way(skin, way) and is_plain_way(skin, way[:1]))
        self.assertEqual(plain_skin(1, 1), TORUS)
        check_error(self, TooMany, ("most", 6), plain_skin, 3, 2)

    def test_20(self):
        self.assertEqual(stretch(TORUS, (0,), 0, (0, 2), 0), (0, 1, True))
        self.assertEqual(stretch(TORUS, (0, 0, 2), 1, (0, 0, 3), 1), (1, 2, True))

    def test_21(self):
        self.assertEqual(linked_pairs(TORUS, (0,), (2,)), [(0, 0, 0)])
        self.assertEqual(linked_pairs(TORUS, (0,), (0, 2)), [(0, 0, 1)])
        self.assertEqual(crossings(TORUS, (0, 2), (0, 3)), 2)
        self.assertEqual((own_pairs(HOLES, (0, 3)), own_pairs(HOLES, (0, 2))), ([(0, 1, 0)], []))


class Drawings(unittest.TestCase):
    def setUp(self):
        self.drawing = Drawing(HOLES, [(0,), (0, 2)], [[(0, 0), (1, 0)], [(1, 1)]])

    def test_30(self):
        self.assertEqual(crossed(self.drawing), [((0, 0), (1, 0)), ((0, 0), (1, 1))])
        other = Drawing(HOLES, [(0,), (0, 2)], [[(1, 0), (0, 0)], [(1, 1)]])
        self.assertEqual(crossed_number(other), 0)

    def test_31(self):
        self.assertEqual(best_drawing(HOLES, [(0,), (0, 2)]).rows[0], ((1, 0), (0, 0)))
        told = best_drawing(RING, [(0, 0)])
        self.assertEqual((told.rows, crossed_number(told)), ((((0, 0), (0, 1)),), 1))

    def test_32_and_33(self):
        self.assertEqual(patches(self.drawing), [((0, 0), (1, 0), 1)])
        self.assertTrue(is_way(self.drawing, [(0, 0)]))
        self.assertEqual(rise(self.drawing, 0, 0), -2)
        self.assertEqual(crossed_number(exchanged(self.drawing, 0, 0)), 0)

    def test_34(self):
        drawing = best_drawing(HOLES, [(0, 3)])
        self.assertEqual((pieces(drawing), inner_discs(drawing)), ([(0, (0,)), (0, (1,)), (0, (2,))], 0))
        self.assertTrue(fills(HOLES, [(0, 3)]))
        self.assertEqual(pieces(best_drawing(HOLES, [])), [(-1, (0, 1, 2))])
        self.assertIsNotNone(free_round(HOLES, []))
        self.assertTrue(fills(RING, []) and fills(RING, [(0, 0), (1,)]))
        self.assertEqual(pieces(best_drawing(TORUS, [(0,)])), [(-1, (0,))])
        self.assertTrue(fills(TORUS, [(0,), (2,)]))
        self.assertEqual(pieces(best_drawing(TORUS, [(0,), (2,)])), [(0, (0,))])


class SumsAndChanges(unittest.TestCase):
    def test_41(self):
        self.assertEqual(bracket(TORUS, {(0,): 1}, {(2,): 1}), {(0, 2): 1})
        self.assertEqual(bracket(TORUS, {(0, 2): 1}, {(0, 3): 1}), {(0, 0): -1, (0, 2, 0, 3): -1})

    def test_42(self):
        self.assertEqual(split(HOLES, {(0, 3): 1}), {((0,), (3,)): -1, ((3,), (0,)): 1})

    def test_51(self):
        self.assertEqual(twist(TORUS, (0,), 1), [(0,), (1,), (1, 2), (3, 0)])
        self.assertEqual(twist(TORUS, (0, 2), 1), [(0, 0, 2), (3, 1, 1), (3, 1, 2), (3, 0, 2)])

    def test_52(self):
        self.assertEqual(sides(TORUS, (0,)), ("whole", (0, 3)))
        self.assertEqual(sides(Skin((0, 1, 2, 3, 4, 5)), (0, 2)), ("parted", (0, 3), (0, 3)))


class Texts(unittest.TestCase):
    def test_65(self):
        deeds = [("draw", "x", (0,)), ("draw", "y", (2,)), ("settle",)]
        self.assertEqual(orders(TORUS, deeds), [(0, 1, 2), (0, 2, 1), (2, 0, 1)])
        self.assertEqual([may_change(TORUS, deeds, at) for at in (0, 1)], [False, True])
        check_error(self, BadNumber, ("part", "at"), may_change, TORUS, deeds, 2)

    def test_66(self):
        self.assertEqual(read_word(TORUS, ""), ())
        check_error(self, BadText, ("at", 0), read_round, TORUS, "")
        check_error(self, BadText, ("at", 2), read_round, TORUS, "ba")

    def test_68(self):
        live = Live(TORUS)
        live.draw("x", (0, 0, 2))
        live.do([("swap", 0, 0), ("settle",), ("slide", 0, 1)])
        live.rename((2, 3, 0, 1))
        live.change([(0, 2), (3, 1), (2,), (3,)])
        live.twist("x", -2) if live.number("x") == 0 else None
        live.wipe("x")
        rows = log_text(live).split("\n")
        self.assertEqual(rows[:5], ["abAB", "draw x aab", "swap 0 0; settle; slide a +", "rename bBaA",
                                    "change ab BA b B"])
        self.assertIn("wipe x", rows)
        told, good = read_log(log_text(live))
        self.assertEqual((told, good), (live, len(log_text(live))))
        self.assertEqual(told.steps(), live.steps())


class Bundles(unittest.TestCase):
    def test_80(self):
        self.assertEqual((numbers_of(TORUS, [(0, 2)]), numbers_of(TORUS, [(2,)])), ((1, 1, 2), (0, 1, 1)))
        self.assertEqual(joined(TORUS, (1, 1, 2)), {(0, 3): 1, (1, 2): 1})
        self.assertFalse(is_bundle(TORUS, (1, 1, 1)) or is_bundle(TORUS, (1, 1, 4)))
        self.assertEqual(numbers_of(TORUS, rims(TORUS)), (2, 2, 2))
        self.assertEqual(bundle_of(RING, (7,)), [((0,), 7)])

    def test_81(self):
        self.assertEqual((orbit_many(0, []), orbit_kinds(0, [], [])), (0, []))
        self.assertEqual(orbit_kinds(5, [(0, 0, 5, -1)], [(5, (1,))]), [((1,), 1), ((2,), 2)])
        self.assertTrue(same_orbit(5, [(0, 0, 5, -1)], 0, 4) and same_orbit(5, [(0, 0, 5, -1)], 1, 3))
        self.assertEqual(orbit_many(10, [(0, 6, 4, 1), (0, 4, 6, 1)]), 2)
        self.assertEqual(orbit_many(10, [(0, 6, 4, 1)]), 6)

    def test_82(self):
        self.assertEqual(kinds(TORUS, (6, 8, 4)), [((2, 2, 2), 1), ((2, 3, 1), 2)])
        self.assertEqual(kinds(HOLES, (5, 4, 6)), [((0, 1, 0), 1), ((1, 0, 0), 2), ((1, 1, 2), 3)])
        self.assertEqual(kinds(RING, (7,)), [((1,), 7)])

    def test_83(self):
        self.assertEqual(bundle_of(TORUS, (2, 3, 1)), [((0, 3, 0, 3, 3), 1)])
        loops = [(0,), (2,), (0, 2), (0, 3)]
        self.assertEqual([crossed_by(TORUS, (2, 3, 1), loop) for loop in loops], [3, 2, 5, 1])
        self.assertEqual((crossed_by(HOLES, (5, 4, 6), (0, 3)), rim_times(HOLES, (5, 4, 6))), (0, [3, 2, 1]))

    def test_85(self):
        told = [twisted_bundle(TORUS, (0,), times, (0, 1, 1)) for times in (1, -1, 5, 10 ** 12)]
        self.assertEqual(told, [(1, 1, 0), (1, 1, 2), (5, 1, 4), (10 ** 12, 1, 10 ** 12 - 1)])
        self.assertEqual(slid_bundle(TORUS, 0, 1, (1, 1, 2)), (1, 2, 3))
        self.assertEqual(numbers_of(TORUS, [(0, 2, 2)]), (1, 2, 3))
        self.assertEqual(slid_bundle(HOLES, 1, 1, (1, 1, 2)), (1, 0, 1))


class Fans(unittest.TestCase):
    def test_90(self):
        told = [bridge_of(TORUS, 2, (), 3), bridge_of(TORUS, 1, (), 2), bridge_of(TORUS, 1, (0, 2), 1)]
        self.assertEqual(told, [(0, (), 1), (0, (), 3), (1, (), 3)])
        self.assertEqual(bridge_of(TORUS, 2, (2,), 1), (1, (), 3))
        self.assertEqual(bridge_of(TORUS, 2, (0,), 0), (0, (1,), 2))

    def test_91(self):
        self.assertEqual([overpasses(TORUS, (0, (), 2), loop) for loop in ((0,), (0, 2), (0, 3))], [1, 2, 0])
        self.assertEqual(bridges_crossed(TORUS, (0, (), 2), (1, (), 3)), 1)

    def test_92(self):
        self.assertEqual((first_fan(TORUS), triangles(TORUS, FIRST)), (FIRST, [(0, 2, 1), (0, 2, 1)]))
        self.assertEqual((first_fan(HOLES), triangles(HOLES, FIRST)), (FIRST, [(0, 0, 1), (1, 2, 2)]))

    def test_93(self):
        self.assertEqual([flipped(TORUS, FIRST, place)[1] for place in (1, 0, 2)],
                         [(1, (), 3), (0, (1,), 2), (0, (2,), 2)])
        check_error(self, NotNow, None, flipped, HOLES, FIRST, 0)
        check_error(self, NotNow, None, flipped, HOLES, FIRST, 2)
        self.assertEqual(flipped(HOLES, FIRST, 1)[1], (1, (), 3))

    def test_94(self):
        self.assertEqual(numbers_on(TORUS, FIRST, (3, 5, 8)), (3, 8, 5))
        fan = [(0, (), 1), (0, (), 3), (1, (), 3)]
        self.assertEqual((numbers_on(TORUS, FIRST, (1, 1, 2)), numbers_on(TORUS, fan, (1, 1, 2))), ((1, 2, 1), (1, 1, 0)))

    def test_95(self):
        self.assertEqual((pattern(TORUS, FIRST), symmetries(TORUS, FIRST)), (((0, 1, 2), (0, 1, 2)), 6))
        self.assertEqual((pattern(HOLES, FIRST), symmetries(HOLES, FIRST)), (((0, 0, 1), (1, 2, 2)), 2))


if __name__ == "__main__":
    unittest.main()
