"""Promises k82 to k84, point [93]: flips, and the ways from fan to fan."""

import copy
import unittest
from math import gcd

from tautrounds.bridges import is_bridge
from tautrounds.errors import BadBridge, BadFan, BadNumber, BadSkin, NotNow, NotSimple, TooMany
from tautrounds.fans import first_fan, is_fan, triangles
from tautrounds.flips import fewest_flips, flip_way, flipped, is_flip_way, nearer
from tautrounds.overpasses import bridges_crossed, overpasses, own_overpasses
from tautrounds.patterns import led_bridge, led_fan
from tautrounds.rounds import turned_about
from tautrounds.simple import simple_rounds
from tautrounds.skins import Skin, rims
from tautrounds.twists import twist
from tests.helpers import (
    HOLES, NO_NUMBERS, NO_SKINS, ODD_VALUES, RING, TORUS, Counterfeit, chance_bridge, chance_change,
    chance_fan, chance_of, chance_skin, check_error,
)

FIRST = [(0, (), 1), (0, (), 2), (0, (), 3)]


def flip_of(skin, fan, place):
    """What flipped tells; None where it is NotNow."""
    try:
        return flipped(skin, fan, place)
    except NotNow:
        return None


def flipped_by(skin, fan, bridge):
    """The pair of the fan behind the flip of a bridge that stands in it, and the new one."""
    return flipped(skin, fan, fan.index(bridge))


class FlippedTest(unittest.TestCase):
    def test_by_hand(self):
        self.assertEqual(flipped(TORUS, FIRST, 1), ([(0, (), 1), (0, (), 3), (1, (), 3)], (1, (), 3)))
        self.assertEqual(flipped(TORUS, FIRST, 0)[1], (0, (1,), 2))
        self.assertEqual(flipped(TORUS, FIRST, 2)[1], (0, (2,), 2))
        check_error(self, NotNow, None, flipped, HOLES, FIRST, 0)
        check_error(self, NotNow, None, flipped, HOLES, FIRST, 2)
        self.assertEqual(flipped(HOLES, tuple(FIRST), 1)[1], (1, (), 3))

    def test_the_one_other_diagonal(self):
        """The new bridge crosses the one that goes once, and no other; the flip of it leads back."""
        chance = chance_of(1)
        for _ in range(60):
            skin = chance_skin(chance, chance.randint(2, 6))
            fan = chance_fan(chance, skin, chance.choice([0, 5, 30]))
            place = chance.randrange(len(fan))
            twice = any(triangle.count(place) == 2 for triangle in triangles(skin, fan))
            told = None
            try:
                told = flip_of(skin, fan, place)
            except TooMany:
                continue
            self.assertIs(told is None, twice)
            if told is not None:
                new, bridge = told
                self.assertTrue(is_fan(skin, new) and is_bridge(skin, bridge))
                self.assertEqual(new, sorted(fan[:place] + fan[place + 1:] + [bridge]))
                self.assertEqual(bridges_crossed(skin, bridge, fan[place]), 1)
                self.assertEqual(flipped_by(skin, new, bridge), (fan, fan[place]))

    def test_too_long(self):
        chance = chance_of(2)
        seen = 0
        for _ in range(400):
            skin = chance_skin(chance, chance.choice([2, 3, 4]))
            fan = chance_fan(chance, skin, 60)
            for place in range(len(fan)):
                try:
                    self.assertLessEqual(len(flipped(skin, fan, place)[1][1]), 40)
                except NotNow:
                    pass
                except TooMany as error:
                    self.assertEqual(error.most, 40)
                    seen += 1
            if seen >= 15:
                break
        self.assertGreaterEqual(seen, 15)

    def test_four(self):
        """Flips of two bridges that are sides of no triangle in common can be done in either sequence."""
        chance = chance_of(3)
        done = 0
        while done < 40:
            skin = chance_skin(chance, chance.randint(3, 6))
            fan = chance_fan(chance, skin, chance.choice([0, 4, 10]))
            one, other = chance.sample(range(len(fan)), 2)
            if any(one in triangle and other in triangle for triangle in triangles(skin, fan)):
                continue
            if flip_of(skin, fan, one) is None or flip_of(skin, fan, other) is None:
                continue
            done += 1
            first = flipped_by(skin, flipped(skin, fan, one)[0], fan[other])
            second = flipped_by(skin, flipped(skin, fan, other)[0], fan[one])
            self.assertEqual(first[0], second[0])

    def test_five(self):
        """Five flips by turns lead back, where three unlike triangles have one, both and the other for sides."""
        chance = chance_of(4)
        done = 0
        while done < 40:
            skin = chance_skin(chance, chance.randint(2, 6))
            fan = chance_fan(chance, skin, chance.choice([0, 4, 10]))
            one, other = chance.sample(range(len(fan)), 2)
            having = [at for place in (one, other) for at, sides in enumerate(triangles(skin, fan)) if place in sides]
            if len(having) != 4 or len(set(having)) != 3:
                continue
            done += 1
            now, going, then = fan, fan[one], fan[other]
            for _ in range(5):
                now, new = flipped_by(skin, now, going)
                going, then = then, new
            self.assertEqual(now, fan)

    def test_refused(self):
        for skin in NO_SKINS + [RING]:
            check_error(self, BadSkin, ("part", "bands" if skin is RING else None), flipped, skin, None, None)
        for thing in ODD_VALUES + [FIRST[::-1], FIRST[:2]]:
            check_error(self, BadFan, ("part", None), flipped, TORUS, thing, None)
        for place in NO_NUMBERS + [-1, 3]:
            check_error(self, BadNumber, ("part", "place"), flipped, TORUS, FIRST, place)
        fan, before = list(FIRST), copy.deepcopy(FIRST)
        told, bridge = flipped(skin=TORUS, fan=fan, place=1)
        told.append(None)
        self.assertEqual((fan, bridge), (before, (1, (), 3)))


class NearerTest(unittest.TestCase):
    def test_never_away(self):
        chance = chance_of(5)
        done = 0
        while done < 100:
            skin = chance_skin(chance, chance.randint(2, 5))
            fan = chance_fan(chance, skin, chance.choice([0, 5, 20]))
            bridge = chance_bridge(chance, skin, chance.choice([1, 3, 5]))
            if own_overpasses(skin, bridge):
                check_error(self, NotSimple, None, nearer, skin, fan, bridge)
                continue
            done += 1
            told = nearer(skin, fan, bridge)
            crossed = [bridges_crossed(skin, bridge, other) for other in fan]
            wanted = []
            for place in range(len(fan)):
                try:
                    new = flip_of(skin, fan, place)
                except TooMany:
                    new = None
                    wanted = None
                    break
                if new is not None and bridges_crossed(skin, bridge, new[1]) < crossed[place]:
                    wanted.append(place)
            if wanted is not None:
                self.assertEqual(told, wanted)
            most = [place for place in range(len(fan)) if crossed[place] == max(crossed)]
            self.assertEqual(bool(told), bridge not in fan)
            if bridge not in fan:
                self.assertTrue(set(most) & set(told))

    def test_refused(self):
        good = (0, (), 1)
        for skin in NO_SKINS + [RING]:
            check_error(self, BadSkin, ("part", "bands" if skin is RING else None), nearer, skin, None, None)
        for thing in ODD_VALUES + [FIRST[::-1]]:
            check_error(self, BadFan, ("part", None), nearer, TORUS, thing, None)
        for thing in ODD_VALUES + [(2, (), 3), [0, (), 1], (0, (), True)]:
            check_error(self, BadBridge, None, nearer, TORUS, FIRST, thing)
        self.assertEqual(nearer(skin=TORUS, fan=FIRST, bridge=good), [])
        self.assertEqual(nearer(TORUS, FIRST, (1, (), 3)), [1])


class WaysTest(unittest.TestCase):
    def test_from_fan_to_fan(self):
        chance = chance_of(6)
        for _ in range(50):
            skin = chance_skin(chance, chance.randint(2, 6))
            one = chance_fan(chance, skin, chance.choice([0, 6, 40]))
            other = chance_fan(chance, skin, chance.choice([0, 6, 40]))
            way = flip_way(skin, one, other)
            self.assertIs(is_flip_way(skin, one, other, way), True)
            self.assertIs(is_flip_way(skin, tuple(one), tuple(other), tuple(way)), True)
            self.assertEqual(flip_way(skin, one, one), [])
            if way:
                self.assertIs(is_flip_way(skin, one, other, way[:-1]), False)
                self.assertIs(is_flip_way(skin, one, other, way + way[-1:]), False)
                self.assertIs(is_flip_way(skin, one, other, [list(bridge) for bridge in way]), False)
                # To and fro adds two flips: the new bridge of the first one goes at once.
                new = [bridge for bridge in self.behind(skin, one, way[0]) if bridge not in one]
                self.assertIs(is_flip_way(skin, one, other, [way[0]] + new + way), True)

    def behind(self, skin, fan, bridge):
        try:
            return flipped_by(skin, fan, bridge)[0]
        except TooMany:
            return []

    def test_far_fans(self):
        """Fans far from one another: behind changes with bridges of nearly forty letters."""
        chance = chance_of(7)
        done = 0
        while done < 8:
            skin = chance_skin(chance, chance.choice([3, 5, 6]))
            try:
                one = led_fan(skin, chance_change(chance, skin, 4), first_fan(skin))
            except TooMany:
                continue
            if max(len(word) for _, word, _ in one) >= 15:
                done += 1
                other = first_fan(skin)
                self.assertTrue(is_flip_way(skin, one, other, flip_way(skin, one, other)))
                self.assertTrue(is_flip_way(skin, other, one, flip_way(skin, other, one)))

    def test_through_bridges_of_more_than_forty_letters(self):
        """A way may go on beyond forty letters and come back: a twist more is a flip more."""
        once = twist(TORUS, (0,), 1)
        other, many = FIRST, 0
        beyond = [led_bridge(TORUS, once, bridge) for bridge in other]
        while max(len(word) for _, word, _ in beyond) <= 40:
            other, many = sorted(beyond), many + 1
            beyond = [led_bridge(TORUS, once, bridge) for bridge in other]
        way = flip_way(TORUS, FIRST, other)
        self.assertEqual(len(way), many)
        goes = [bridge for bridge in other if bridge not in beyond][0]
        comes = [bridge for bridge in beyond if bridge not in other][0]
        self.assertGreater(len(comes[1]), 40)
        check_error(self, TooMany, ("most", 40), flipped, TORUS, other, other.index(goes))
        self.assertTrue(is_flip_way(TORUS, FIRST, other, way + [goes, comes]))
        self.assertFalse(is_flip_way(TORUS, FIRST, other, way + [goes]))
        self.assertEqual(fewest_flips(TORUS, other, other), 0)

    def test_of_any_value(self):
        other = flipped(TORUS, FIRST, 1)[0]
        for thing in ODD_VALUES + [[None], [(1, (), 3)], [(0, (), True)], [[0, (), 2]], [(0, [], 2)], Counterfeit(),
                                   [Counterfeit()], [(0, (), 2), (0, (), 2)], [(0, (), Counterfeit())], "0"]:
            self.assertIs(is_flip_way(TORUS, FIRST, other, thing), False, thing)
        self.assertIs(is_flip_way(TORUS, FIRST, other, [(0, (), 2)]), True)
        self.assertIs(is_flip_way(TORUS, FIRST, FIRST, ()), True)
        self.assertIs(is_flip_way(HOLES, FIRST, FIRST, [(0, (), 1)]), False)
        for thing in ODD_VALUES:
            if thing != ():
                self.assertIs(is_flip_way(TORUS, FIRST, FIRST, thing), False, thing)

    def test_refused(self):
        for act, rest in ((flip_way, []), (is_flip_way, [None]), (fewest_flips, [])):
            for skin in NO_SKINS + [RING]:
                check_error(self, BadSkin, ("part", "bands" if skin is RING else None), act, skin, None, None, *rest)
            for thing in ODD_VALUES + [FIRST[::-1]]:
                check_error(self, BadFan, ("part", "one"), act, TORUS, thing, None, *rest)
                check_error(self, BadFan, ("part", "other"), act, TORUS, FIRST, thing, *rest)
        told = flip_way(skin=TORUS, one=FIRST, other=FIRST)
        told.append(None)
        self.assertEqual(flip_way(TORUS, FIRST, FIRST), [])
        self.assertIs(is_flip_way(skin=TORUS, one=FIRST, other=FIRST, thing=[]), True)
        self.assertEqual(fewest_flips(skin=TORUS, one=FIRST, other=FIRST), 0)


class FewestFlipsTest(unittest.TestCase):
    def test_on_one_handle_as_the_tree_tells(self):
        """On (0, 2, 1, 3) fans make a tree, three beside each: there is just one way, not going back at once."""
        chance = chance_of(8)
        for _ in range(10):
            fan, last, many = FIRST, None, chance.randint(0, 6)
            for _ in range(many):
                place = chance.choice([at for at in range(3) if fan[at] != last])
                fan, last = flipped(TORUS, fan, place)
            self.assertEqual(fewest_flips(TORUS, FIRST, fan), many)
            self.assertEqual(fewest_flips(TORUS, fan, FIRST), many)

    def test_twists_are_as_many_flips_away(self):
        loops = [(0,), (2,), (0, 2)]
        done = 0
        for loop in loops:
            if not any(overpasses(TORUS, bridge, loop) == 0 for bridge in FIRST):
                continue
            done += 1
            for times in (-3, -1, 1, 2, 5):
                other = led_fan(TORUS, twist(TORUS, loop, times), FIRST)
                self.assertEqual(fewest_flips(TORUS, FIRST, other), abs(times))
        self.assertGreaterEqual(done, 2)

    def test_four_fans_on_a_disc_with_two_holes(self):
        for row in ((0, 1, 2, 3), (0, 1, 3, 2), (0, 2, 3, 1), (0, 3, 2, 1)):
            skin = Skin(row)
            fans = [first_fan(skin)]
            for fan in fans:
                for place in range(3):
                    told = flip_of(skin, fan, place)
                    if told is not None and told[0] not in fans:
                        fans.append(told[0])
            self.assertEqual(len(fans), 4)
            far = [[fewest_flips(skin, one, other) for other in fans] for one in fans]
            self.assertEqual(sorted(sorted(line) for line in far), [[0, 1, 1, 1], [0, 1, 2, 2], [0, 1, 2, 2], [0, 1, 2, 2]])

    def test_too_many(self):
        """The ball on one handle has 1, 4, 10, 22, 46, 94, 190, 382 fans: so seven flips can be told, not eight."""
        for many in range(1, 9):
            fan = led_fan(TORUS, twist(TORUS, (0,), many), FIRST)
            if many <= 7:
                self.assertEqual(fewest_flips(TORUS, FIRST, fan), many)
            else:
                check_error(self, TooMany, ("most", 200), fewest_flips, TORUS, FIRST, fan)

    def test_many_bands(self):
        chance = chance_of(9)
        for _ in range(4):
            skin = chance_skin(chance, 6)
            one = chance_fan(chance, skin, 20)
            self.assertEqual(fewest_flips(skin, one, one), 0)
            other = chance_fan(chance, skin, 60)
            try:
                self.assertLessEqual(fewest_flips(skin, one, other), len(flip_way(skin, one, other)))
            except TooMany as error:
                self.assertEqual(error.most, 200)
            near = [told for told in [flip_of(skin, one, place) for place in range(3)] if told is not None]
            for told, _ in near:
                self.assertEqual(fewest_flips(skin, one, told), 1)


class TwoBandsTest(unittest.TestCase):
    """Slopes on (0, 2, 1, 3) and (0, 3, 1, 2) ([93])."""

    def slopes(self, skin):
        """The bridges of fans near by with their slopes: the simple round that crosses each not."""
        around = rims(skin) + [turned_about(skin, rim) for rim in rims(skin)]
        loops = [loop for loop in simple_rounds(skin, 6) if loop not in around]
        fans, told = [first_fan(skin)], {}
        for fan in fans:
            for bridge in fan:
                free = [loop for loop in loops if overpasses(skin, bridge, loop) == 0]
                if bridge not in told and free:
                    self.assertEqual(len(free), 2)
                    told[bridge] = self.numbers(free[0])
            if len(fans) < 22:
                fans.extend(new for new in [flipped(skin, fan, place)[0] for place in range(3)] if new not in fans)
        return loops, told

    def numbers(self, loop):
        return loop.count(0) - loop.count(1), loop.count(2) - loop.count(3)

    def test_slopes(self):
        for row in ((0, 2, 1, 3), (0, 3, 1, 2)):
            skin = Skin(row)
            loops, told = self.slopes(skin)
            self.assertGreater(len(told), 10)
            self.assertEqual(len({max(slope, (-slope[0], -slope[1])) for slope in told.values()}), len(told))
            for bridge, (p, q) in told.items():
                self.assertEqual(gcd(p, q), 1)
                for loop in loops:
                    r, s = self.numbers(loop)
                    self.assertEqual(overpasses(skin, bridge, loop), abs(p * s - q * r))
                for other, (r, s) in told.items():
                    if other != bridge:
                        self.assertEqual(bridges_crossed(skin, bridge, other), abs(p * s - q * r) - 1)

    def test_three_are_a_fan(self):
        _, told = self.slopes(TORUS)
        bridges = sorted(told)[:12]
        seen = [0, 0]
        for at, one in enumerate(bridges):
            for spot in range(at + 1, len(bridges)):
                for other in bridges[spot + 1:]:
                    three = [told[one], told[bridges[spot]], told[other]]
                    pairs = [(three[0], three[1]), (three[0], three[2]), (three[1], three[2])]
                    wanted = all(abs(p * s - q * r) == 1 for (p, q), (r, s) in pairs)
                    self.assertIs(is_fan(TORUS, [one, bridges[spot], other]), wanted)
                    seen[wanted] += 1
        self.assertGreater(min(seen), 2)

if __name__ == "__main__":
    unittest.main()
