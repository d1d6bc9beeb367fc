"""Promise k63, point [82]: the kinds of a bundle's rounds, of numbers of sixty figures."""

import unittest
from math import gcd

from tautrounds.bundles import bundle_of, laid, multiplied, numbers_of
from tautrounds.errors import BadBundle, BadNumber, BadSkin
from tautrounds.leads import twisted_bundle
from tautrounds.roundkinds import kinds, round_there, rounds_many
from tautrounds.skins import Skin, genus, rims
from tautrounds.strips import rim_times
from tests.helpers import (
    HOLES, NO_NUMBERS, NO_SKINS, ODD_VALUES, RING, TORUS, chance_apart, chance_numbers, chance_of, chance_simple,
    chance_skin, check_error, counted_numbers,
)

TOP = 10 ** 60


class KindsTest(unittest.TestCase):
    def test_by_hand(self):
        self.assertEqual(kinds(TORUS, (6, 8, 4)), [((2, 2, 2), 1), ((2, 3, 1), 2)])
        self.assertEqual(kinds(HOLES, (5, 4, 6)), [((0, 1, 0), 1), ((1, 0, 0), 2), ((1, 1, 2), 3)])
        self.assertEqual(kinds(RING, (7,)), [((1,), 7)])
        self.assertEqual((kinds(TORUS, (0, 0, 0)), rounds_many(TORUS, (0, 0, 0))), ([], 0))

    def test_drawn_one_by_one(self):
        chance = chance_of(1)
        for _ in range(150):
            skin = chance_skin(chance, chance.randint(1, 6))
            numbers = chance_numbers(chance, skin, 6)
            drawn = [(counted_numbers(skin, [loop]), times) for loop, times in bundle_of(skin, numbers)]
            self.assertEqual(kinds(skin, numbers), sorted(drawn))
            self.assertEqual(rounds_many(skin, numbers), sum(times for _, times in drawn))
            self.assertLessEqual(len(drawn), max(1, 3 * genus(skin) - 3 + 2 * len(rims(skin))))

    def test_round_there(self):
        """At the even end of each band the strands stand as the rounds drawn side by side do."""
        chance = chance_of(2)
        for _ in range(60):
            skin = chance_skin(chance, chance.randint(1, 6))
            numbers = chance_numbers(chance, skin, 4)
            for band in range(skin.bands):
                told = [round_there(skin, numbers, band, place) for place in range(numbers[band])]
                for one, many in kinds(skin, numbers):
                    self.assertEqual(told.count(one), many * one[band])

    def test_round_there_by_hand(self):
        told = [round_there(HOLES, (2, 2, 2), 0, place) for place in (0, 1)]
        self.assertEqual(told, [(1, 1, 2), (1, 0, 0)])
        told = [round_there(HOLES, (2, 2, 2), 1, place) for place in (0, 1)]
        self.assertEqual(told, [(1, 1, 2), (0, 1, 0)])
        told = [round_there(Skin((0, 1, 3, 2)), (2, 2, 2), 1, place) for place in (0, 1)]
        self.assertEqual(told, [(0, 1, 0), (1, 1, 2)])

    def test_great_numbers_add_up(self):
        chance = chance_of(3)
        for _ in range(60):
            skin = chance_skin(chance, chance.randint(1, 6))
            numbers = chance_numbers(chance, skin, TOP // 20)
            told = kinds(skin, numbers)
            self.assertEqual(told, sorted(told))
            self.assertEqual(tuple(sum(many * one[at] for one, many in told) for at in range(len(numbers))), numbers)
            self.assertLessEqual(len(told), max(1, 3 * genus(skin) - 3 + 2 * len(rims(skin))))
            for one, many in told:
                self.assertEqual((kinds(skin, one), rounds_many(skin, one)), ([(one, 1)], 1))
            band = chance.randrange(skin.bands)
            if numbers[band]:
                there = round_there(skin, numbers, band, chance.randrange(numbers[band]))
                self.assertIn(there, [one for one, _ in told])

    def test_known_rounds_as_often_as_ten_to_fifty(self):
        chance = chance_of(4)
        for _ in range(60):
            skin = chance_skin(chance, chance.randint(1, 6))
            rounds = chance_apart(chance, skin, 3, 4)
            wanted = {}
            numbers = numbers_of(skin, [])
            for loop in rounds:
                one = numbers_of(skin, [loop])
                times = chance.randint(1, 10 ** 9)
                numbers = laid(skin, numbers, multiplied(skin, multiplied(skin, one, times), 10 ** 9))
                wanted[one] = wanted.get(one, 0) + times * 10 ** 9
            self.assertEqual(kinds(skin, numbers), sorted(wanted.items()))
            loop = chance_simple(chance, skin, 6)
            far = twisted_bundle(skin, loop, chance.randint(-10 ** 12, 10 ** 12), numbers)
            self.assertEqual(sorted(many for _, many in kinds(skin, far)), sorted(wanted.values()))

    def test_times_as_great(self):
        chance = chance_of(5)
        for _ in range(40):
            skin = chance_skin(chance, chance.randint(1, 6))
            numbers = chance_numbers(chance, skin, 5)
            times = chance.choice([2, 3, 10 ** 9])
            wanted = [(one, many * times) for one, many in kinds(skin, numbers)]
            self.assertEqual(kinds(skin, multiplied(skin, numbers, times)), wanted)

    def test_one_handle(self):
        chance = chance_of(6)
        for _ in range(200):
            x, y, h = chance_numbers(chance, TORUS, chance.choice([4, 30, TOP // 10]))
            r = min(x + y - h, x + h - y, y + h - x) // 2
            g = gcd(x - 2 * r, y - 2 * r)
            wanted = [((2, 2, 2), r)] if r else []
            if g:
                wanted.append((tuple((number - 2 * r) // g for number in (x, y, h)), g))
            self.assertEqual(kinds(TORUS, (x, y, h)), sorted(wanted))
            self.assertEqual(rim_times(TORUS, (x, y, h)), [r])

    def test_two_holes(self):
        chance = chance_of(7)
        for _ in range(200):
            x, y, h = chance_numbers(chance, HOLES, chance.choice([4, 30, TOP // 10]))
            wanted = [((1, 0, 0), x - h // 2), ((0, 1, 0), y - h // 2), ((1, 1, 2), h // 2)]
            self.assertEqual(kinds(HOLES, (x, y, h)), sorted(pair for pair in wanted if pair[1]))

    def test_at_the_bound(self):
        self.assertEqual(kinds(RING, (TOP - 1,)), [((1,), TOP - 1)])
        self.assertEqual(kinds(TORUS, (TOP - 1, TOP - 2, 1)), [((TOP - 1, TOP - 2, 1), 1)])
        self.assertEqual(rounds_many(TORUS, (TOP - 1, TOP - 1, 0)), TOP - 1)
        self.assertEqual(round_there(TORUS, (TOP - 1, TOP - 1, 0), 1, TOP - 2), (1, 1, 0))

    def test_refused(self):
        for skin in NO_SKINS:
            check_error(self, BadSkin, ("part", None), kinds, skin, None)
            check_error(self, BadSkin, ("part", None), rounds_many, skin, None)
            check_error(self, BadSkin, ("part", None), round_there, skin, None, None, None)
        for thing in ODD_VALUES + [(1, 1, 1), [1, 1, 2], (TOP, TOP, 0), (True, 1, 2)]:
            check_error(self, BadBundle, ("part", "numbers"), kinds, TORUS, thing)
            check_error(self, BadBundle, ("part", "numbers"), rounds_many, TORUS, thing)
            check_error(self, BadBundle, ("part", "numbers"), round_there, TORUS, thing, None, None)
        for number in NO_NUMBERS + [-1, 2]:
            check_error(self, BadNumber, ("part", "band"), round_there, TORUS, (1, 1, 2), number, None)
        for number in NO_NUMBERS + [-1, 1]:
            check_error(self, BadNumber, ("part", "place"), round_there, TORUS, (1, 1, 2), 0, number)
        check_error(self, BadNumber, ("part", "place"), round_there, TORUS, (1, 0, 1), 1, 0)

    def test_named_arguments_and_new_lists(self):
        told = kinds(skin=TORUS, numbers=(6, 8, 4))
        told.append(None)
        self.assertEqual(kinds(TORUS, (6, 8, 4)), [((2, 2, 2), 1), ((2, 3, 1), 2)])
        self.assertEqual(rounds_many(skin=TORUS, numbers=(6, 8, 4)), 3)
        self.assertIn(round_there(skin=TORUS, numbers=(6, 8, 4), band=0, place=5), [(2, 2, 2), (2, 3, 1)])


if __name__ == "__main__":
    unittest.main()
