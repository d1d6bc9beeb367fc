"""Promises k80 and k81, point [92]: fans and their triangles."""

import copy
import unittest

from tautrounds.errors import BadFan, BadSkin
from tautrounds.fans import completed, first_fan, is_fan, triangles
from tautrounds.flips import flipped
from tautrounds.overpasses import bridges_crossed, own_overpasses
from tautrounds.patterns import led_bridge
from tests.helpers import (
    HOLES, NO_SKINS, ODD_VALUES, RING, TORUS, Counterfeit, chance_bridge, chance_change, chance_fan, chance_of,
    chance_skin, check_error,
)

FIRST = [(0, (), 1), (0, (), 2), (0, (), 3)]


def fits(skin, bridges):
    """Whether bridges are a fan, by the words of the document: any two are apart, each is simple."""
    if len(bridges) != 3 * skin.bands - 3 or list(bridges) != sorted(set(bridges)):
        return False
    return not any(bridges_crossed(skin, one, other) for one in bridges for other in bridges)


class FansTest(unittest.TestCase):
    def test_by_hand(self):
        self.assertEqual((first_fan(TORUS), first_fan(HOLES)), (FIRST, FIRST))
        self.assertEqual(triangles(TORUS, FIRST), [(0, 2, 1), (0, 2, 1)])
        self.assertEqual(triangles(HOLES, FIRST), [(0, 0, 1), (1, 2, 2)])

    def test_first_fans(self):
        chance = chance_of(1)
        for _ in range(60):
            skin = chance_skin(chance, chance.randint(2, 6))
            fan = first_fan(skin)
            self.assertTrue(fits(skin, fan))
            self.assertIs(is_fan(skin, fan), True)
            self.assertIs(is_fan(skin, tuple(fan)), True)

    def test_one_bridge_in_the_place_of_another(self):
        """A list with one bridge changed is a fan just if any two bridges in it are apart."""
        chance = chance_of(2)
        seen = [0, 0]
        for _ in range(300):
            skin = chance_skin(chance, chance.randint(2, 5))
            fan = chance_fan(chance, skin, chance.choice([0, 3, 12]))
            fan[chance.randrange(len(fan))] = chance_bridge(chance, skin, chance.choice([0, 0, 1, 2, 4]))
            thing = sorted(fan)
            told = is_fan(skin, thing)
            self.assertIs(told, fits(skin, thing))
            seen[told] += 1
        self.assertGreater(min(seen), 20)

    def test_chance_lists(self):
        chance = chance_of(3)
        fans = 0
        for _ in range(400):
            skin = chance_skin(chance, 2)
            thing = sorted(chance_bridge(chance, skin, 1) for _ in range(3))
            self.assertIs(is_fan(skin, thing), fits(skin, thing))
            fans += is_fan(skin, thing)
        self.assertGreater(fans, 10)

    def test_triangles(self):
        chance = chance_of(4)
        for _ in range(80):
            skin = chance_skin(chance, chance.randint(2, 6))
            fan = chance_fan(chance, skin, chance.choice([2, 10, 60]))
            told = triangles(skin, fan)
            self.assertEqual(told, sorted(told))
            self.assertEqual(len(told), 2 * skin.bands - 2)
            sides = [side for triangle in told for side in triangle]
            self.assertEqual(sorted(sides), sorted(list(range(len(fan))) * 2))
            for triangle in told:
                self.assertEqual(triangle, min(triangle[at:] + triangle[:at] for at in range(3)))

    def test_triangles_of_the_first_fan(self):
        """From gap 0 lines lead to all other gaps: one goes to a gap, back round the end ahead of it, and back."""
        chance = chance_of(5)
        for _ in range(60):
            skin = chance_skin(chance, chance.randint(2, 6))
            fan, last = first_fan(skin), 2 * skin.bands - 1
            lines = {gap: self.plain_across(skin, 0, gap) for gap in range(1, last + 1)}
            wanted = []
            for gap in range(1, last):
                bridges = (lines[gap], self.plain_across(skin, gap, gap + 1), lines[gap + 1])
                sides = tuple(fan.index(bridge) for bridge in bridges)
                wanted.append(min(sides[at:] + sides[:at] for at in range(3)))
            self.assertEqual(triangles(skin, fan), sorted(wanted))

    def plain_across(self, skin, start, end):
        """The plain triple from gap to gap across the disc, by the words of the document."""
        many = 2 * skin.bands
        pairs = [(start, end)]
        for gap in (start, end):
            if {gap, (gap + 1) % many} == {start, end}:
                beyond = skin.row.index(skin.row[gap] ^ 1)
                pairs.append((beyond, (beyond + 1) % many))
        return min((one, (), other) for pair in pairs for one, other in (pair, pair[::-1]))

    def test_what_does_not_stand_in_a_fan_crosses_it(self):
        chance = chance_of(6)
        done = 0
        while done < 120:
            skin = chance_skin(chance, chance.randint(2, 4))
            fan = chance_fan(chance, skin, chance.choice([0, 5, 20]))
            bridge = chance_bridge(chance, skin, 3)
            if own_overpasses(skin, bridge) == 0:
                done += 1
                crossed = any(bridges_crossed(skin, bridge, other) for other in fan)
                self.assertIs(crossed, bridge not in fan)

    def test_completed(self):
        chance = chance_of(7)
        for _ in range(60):
            skin = chance_skin(chance, chance.randint(2, 6))
            images = chance_change(chance, skin, 2)
            fan = [led_bridge(skin, images, bridge) for bridge in chance_fan(chance, skin, 8)]
            some = [bridge for bridge in chance.sample(fan, chance.randint(0, len(fan))) if len(bridge[1]) <= 40]
            before = copy.deepcopy(some)
            told = completed(skin, some)
            self.assertEqual(some, before)
            self.assertEqual(told, completed(skin, tuple(some)))
            self.assertTrue(set(some) <= set(told))
            if max(len(word) for _, word, _ in told) <= 40:
                self.assertTrue(is_fan(skin, told))
            if len(some) == len(fan):
                self.assertEqual(told, sorted(fan))

    def test_completed_of_one_long_bridge(self):
        chance = chance_of(8)
        done = 0
        while done < 12:
            skin = chance_skin(chance, chance.choice([3, 4, 6]))
            images = chance_change(chance, skin, 4)
            bridge = led_bridge(skin, images, chance.choice(first_fan(skin)))
            if 15 <= len(bridge[1]) <= 40:
                done += 1
                self.assertIn(bridge, completed(skin, [bridge]))

    def test_behind_many_flips(self):
        chance = chance_of(10)
        for bands in (2, 3, 4, 5, 6):
            skin = chance_skin(chance, bands)
            fan = chance_fan(chance, skin, 1500)
            self.assertTrue(fits(skin, fan))
            self.assertTrue(is_fan(skin, fan))
            self.assertEqual(completed(skin, fan[::-1]), fan)
            self.assertEqual(len(triangles(skin, fan)), 2 * bands - 2)

    def test_of_any_value(self):
        bad = ODD_VALUES + [FIRST[:2], FIRST + [(1, (), 3)], FIRST[::-1], [FIRST[0]] * 3, [list(one) for one in FIRST],
                            [(0, (), 1), (0, (), 2), (1, (), 3)], [(0, (), 1), (0, (), 2), (0, (), True)],
                            [(0, (), 1), (0, (), 2), (2, (), 1)], [(0, (), 1), (0, (), 2), None], {1: 2}, Counterfeit(),
                            [(False, (), 1), (0, (), 2), (0, (), 3)], [(0, [], 1), (0, (), 2), (0, (), 3)]]
        for thing in bad:
            self.assertIs(is_fan(TORUS, thing), False, thing)
            check_error(self, BadFan, ("part", None), triangles, TORUS, thing)

    def test_refused(self):
        for skin in NO_SKINS + [RING]:
            part = ("part", "bands" if skin is RING else None)
            check_error(self, BadSkin, part, is_fan, skin, None)
            check_error(self, BadSkin, part, first_fan, skin)
            check_error(self, BadSkin, part, triangles, skin, None)
            check_error(self, BadSkin, part, completed, skin, None)
        bad = ODD_VALUES + [[(0, (), 1), (0, (), 1)], [(0, (), 2), (1, (), 3)], [(1, (), 2)], [None], [[0, (), 1]],
                            [(0, (), 1), None]]
        for thing in bad:
            if thing != ():
                check_error(self, BadFan, ("part", "bridges"), completed, TORUS, thing)

    def test_crossing_bridges_are_refused(self):
        chance = chance_of(9)
        done = 0
        while done < 20:
            skin = chance_skin(chance, chance.randint(2, 4))
            one = chance_bridge(chance, skin, 5)
            if own_overpasses(skin, one):
                done += 1
                check_error(self, BadFan, ("part", "bridges"), completed, skin, [one])

    def test_new_lists(self):
        told = first_fan(skin=TORUS)
        told.append(None)
        self.assertEqual(first_fan(TORUS), FIRST)
        told = completed(skin=TORUS, bridges=[])
        told.append(None)
        self.assertTrue(is_fan(skin=TORUS, thing=completed(TORUS, [])))
        self.assertEqual(triangles(skin=TORUS, fan=tuple(FIRST)), [(0, 2, 1), (0, 2, 1)])
        self.assertEqual(flipped(TORUS, FIRST, 1)[1], (1, (), 3))


if __name__ == "__main__":
    unittest.main()
