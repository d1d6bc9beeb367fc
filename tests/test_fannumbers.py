"""Promise k85, point [94]: the numbers of bundles on fans."""

import unittest
from itertools import product

from tautrounds.bundles import bundle_of, is_bundle, laid, numbers_of
from tautrounds.errors import BadBundle, BadFan, BadSkin, NotNow, TooMany
from tautrounds.fannumbers import is_numbers_on, numbers_from, numbers_on
from tautrounds.fans import first_fan, triangles
from tautrounds.flips import flipped
from tautrounds.overpasses import overpasses
from tests.helpers import (
    HOLES, NO_SKINS, ODD_VALUES, RING, TORUS, Counterfeit, across, around, chance_apart, chance_fan, chance_numbers,
    chance_of, chance_skin, check_error,
)

FIRST = [(0, (), 1), (0, (), 2), (0, (), 3)]
TOP = 10 ** 60


def pieces_round(skin, fan, place):
    """The places of the four sides of the piece in which a bridge is a diagonal, going round it; None if there is none."""
    having = [triangle for triangle in triangles(skin, fan) if place in triangle]
    if len(having) == 1 and having[0].count(place) == 2:
        return None
    sides = []
    for triangle in having if len(having) == 2 else having * 2:
        at = triangle.index(place)
        sides += [triangle[(at + 1) % 3], triangle[(at + 2) % 3]]
    return sides


class NumbersTest(unittest.TestCase):
    def test_by_hand(self):
        self.assertEqual(numbers_on(TORUS, FIRST, (1, 1, 2)), (1, 2, 1))
        fan, _ = flipped(TORUS, FIRST, 1)
        self.assertEqual(fan, [(0, (), 1), (0, (), 3), (1, (), 3)])
        self.assertEqual(numbers_on(TORUS, fan, (1, 1, 2)), (1, 1, 0))
        self.assertEqual(numbers_from(TORUS, fan, (1, 1, 0)), (1, 1, 2))
        self.assertEqual(numbers_on(TORUS, FIRST, (7, 5, 2)), (7, 2, 5))

    def test_counted_bridge_by_bridge(self):
        chance = chance_of(1)
        for _ in range(80):
            skin = chance_skin(chance, chance.randint(2, 6))
            rounds = chance_apart(chance, skin, 4, 5)
            fan = chance_fan(chance, skin, chance.choice([0, 5, 20]))
            wanted = tuple(sum(overpasses(skin, bridge, loop) for loop in rounds) for bridge in fan)
            self.assertEqual(numbers_on(skin, tuple(fan), numbers_of(skin, rounds)), wanted)

    def test_first_fan_has_the_numbers_of_the_bundle(self):
        chance = chance_of(2)
        for _ in range(60):
            skin = chance_skin(chance, chance.randint(2, 6))
            numbers, fan = chance_numbers(chance, skin, TOP // 20), first_fan(skin)
            row = numbers_on(skin, fan, numbers)
            for gap, end in enumerate(skin.row):
                self.assertEqual(row[fan.index(around(skin, gap))], numbers[end // 2])
            for gap in range(2, 2 * skin.bands - 1):
                self.assertEqual(row[fan.index(across(skin, gap))], numbers[skin.bands + gap - 2])

    def test_there_and_back(self):
        chance = chance_of(3)
        for _ in range(60):
            skin = chance_skin(chance, chance.randint(2, 6))
            fan = chance_fan(chance, skin, chance.choice([0, 6, 50]))
            numbers = chance_numbers(chance, skin, chance.choice([4, 10 ** 40]))
            row = numbers_on(skin, fan, numbers)
            self.assertIs(is_numbers_on(skin, fan, row), True)
            self.assertEqual(numbers_from(skin, fan, row), numbers)

    def test_all_small_rows(self):
        """Of each row that all triangles let there is a bundle, and only one."""
        chance = chance_of(4)
        for _ in range(6):
            skin = chance_skin(chance, 2)
            fan = chance_fan(chance, skin, chance.choice([0, 2, 5]))
            seen = {}
            for row in product(range(5), repeat=3):
                fits = all(sum(row[side] for side in sides) % 2 == 0 for sides in triangles(skin, fan))
                fits = fits and all(2 * max(row[side] for side in sides) <= sum(row[side] for side in sides)
                                    for sides in triangles(skin, fan))
                self.assertIs(is_numbers_on(skin, fan, row), fits)
                if fits:
                    numbers = numbers_from(skin, fan, row)
                    self.assertTrue(is_bundle(skin, numbers))
                    self.assertNotIn(numbers, seen)
                    seen[numbers] = row
                    self.assertEqual(numbers_on(skin, fan, numbers), row)
                    if sum(numbers[:2]) <= 400:
                        rounds = bundle_of(skin, numbers)
                        counted = [sum(times * overpasses(skin, bridge, loop) for loop, times in rounds)
                                   for bridge in fan if max([len(loop) for loop, _ in rounds] + [0]) <= 40]
                        self.assertIn(tuple(counted), (row, ()))
                else:
                    check_error(self, BadBundle, ("part", "row"), numbers_from, skin, fan, row)

    def test_flips(self):
        """The new bridge has the greater one of both sums of sides that face, less the number that goes."""
        chance = chance_of(5)
        done = 0
        while done < 120:
            skin = chance_skin(chance, chance.randint(2, 6))
            fan = chance_fan(chance, skin, chance.choice([0, 5, 20]))
            numbers = chance_numbers(chance, skin, chance.choice([3, 10 ** 45]))
            place = chance.randrange(len(fan))
            sides = pieces_round(skin, fan, place)
            try:
                new, bridge = flipped(skin, fan, place)
            except NotNow:
                self.assertIsNone(sides)
                continue
            except TooMany:
                continue
            done += 1
            row = dict(zip(fan, numbers_on(skin, fan, numbers)))
            a, b, c, d = [row[fan[side]] for side in sides]
            row[bridge] = max(a + c, b + d) - row.pop(fan[place])
            self.assertEqual(numbers_on(skin, new, numbers), tuple(row[one] for one in new))

    def test_at_the_bound(self):
        row = (TOP - 1, TOP - 1, 0)
        self.assertIs(is_numbers_on(TORUS, FIRST, row), True)
        self.assertEqual(numbers_from(TORUS, FIRST, row), (TOP - 1, 0, TOP - 1))
        self.assertIs(is_numbers_on(TORUS, FIRST, (TOP, TOP, 0)), False)
        fan, _ = flipped(TORUS, FIRST, 1)
        # On the first fan the one height is the sum of both bands' numbers: too great.
        check_error(self, TooMany, ("most", TOP), numbers_from, TORUS, fan, (TOP - 1, TOP - 1, 0))
        half = TOP // 2
        check_error(self, TooMany, ("most", TOP), numbers_on, TORUS, fan, (half, half, 0))
        self.assertEqual(numbers_on(TORUS, fan, (half - 1, half, 1))[2], TOP - 1)

    def test_laid_side_by_side(self):
        chance = chance_of(6)
        for _ in range(40):
            skin = chance_skin(chance, chance.randint(2, 5))
            rounds = chance_apart(chance, skin, 4, 5)
            fan = chance_fan(chance, skin, 10)
            one, other = numbers_of(skin, rounds[:2]), numbers_of(skin, rounds[2:])
            rows = [numbers_on(skin, fan, numbers) for numbers in (one, other, laid(skin, one, other))]
            self.assertEqual(tuple(a + b for a, b in zip(rows[0], rows[1])), rows[2])

    def test_refused(self):
        for act in (numbers_on, is_numbers_on, numbers_from):
            for skin in NO_SKINS + [RING]:
                check_error(self, BadSkin, ("part", "bands" if skin is RING else None), act, skin, None, None)
            for thing in ODD_VALUES + [FIRST[::-1], FIRST[:2]]:
                check_error(self, BadFan, ("part", None), act, TORUS, thing, None)
        for thing in ODD_VALUES + [(1, 1, 1), [1, 2, 1], (1, 2, True), (1, 2, 1, 0), (-1, 1, 2), (1, 2, 1.0),
                                   (1, 4, 1), Counterfeit(), (1, 2, Counterfeit())]:
            self.assertIs(is_numbers_on(TORUS, FIRST, thing), False, thing)
            check_error(self, BadBundle, ("part", "row"), numbers_from, TORUS, FIRST, thing)
        for thing in ODD_VALUES + [(1, 1, 1), [1, 1, 2], (TOP, TOP, 0)]:
            check_error(self, BadBundle, ("part", "numbers"), numbers_on, TORUS, FIRST, thing)
        # On (0, 1, 2, 3) the triangles have the outer bridges twice: so only the middle one must be even.
        self.assertTrue(is_numbers_on(HOLES, FIRST, (1, 2, 3)) and is_numbers_on(HOLES, FIRST, (3, 0, 0)))
        self.assertFalse(is_numbers_on(HOLES, FIRST, (1, 4, 3)) or is_numbers_on(HOLES, FIRST, (2, 1, 2)))
        self.assertEqual(numbers_on(skin=TORUS, fan=FIRST, numbers=(1, 1, 2)), (1, 2, 1))
        self.assertIs(is_numbers_on(skin=TORUS, fan=FIRST, thing=(1, 2, 1)), True)
        self.assertEqual(numbers_from(skin=TORUS, fan=FIRST, row=(1, 2, 1)), (1, 1, 2))


if __name__ == "__main__":
    unittest.main()
