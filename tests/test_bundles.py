"""Promises k60, k61, k65, points [80], [84], [86]: bundles told by numbers."""

import copy
import unittest
from itertools import product

from tautrounds.bundles import (
    bundle_of, bundles_crossed, divided, is_apart, is_bundle, joined, laid, multiplied, numbers_of,
)
from tautrounds.errors import BadBundle, BadNumber, BadRounds, BadSkin, TooMany
from tautrounds.linked import crossings, own_crossings
from tautrounds.roundkinds import kinds
from tautrounds.rounds import root_of, turned_about
from tautrounds.skins import Skin
from tautrounds.strips import crossed_by
from tests.helpers import (
    HOLES, NO_NUMBERS, NO_SKINS, ODD_VALUES, RING, TORUS, Counterfeit, all_rows, chance_apart, chance_numbers,
    chance_of, chance_round, chance_skin, check_ascending, check_error, chords_crossing, counted_numbers, plain,
    rounds_in,
)

TOP = 10 ** 60
NO_BUNDLES = ODD_VALUES + [(1, 1, 1), (1, 1, 4), (1, 1), (1, 1, 2, 0), [1, 1, 2], (1, 1, True), (1, -1, 2), (TOP, 0, TOP),
                           (1.0, 1, 2), ("1", 1, 2), Counterfeit(), (1, 1, Counterfeit())]


class NumbersTest(unittest.TestCase):
    def test_by_hand(self):
        self.assertEqual(numbers_of(TORUS, [(0, 2)]), (1, 1, 2))
        self.assertEqual(joined(TORUS, (1, 1, 2)), {(0, 3): 1, (1, 2): 1})
        self.assertEqual(numbers_of(TORUS, [(2,)]), (0, 1, 1))
        self.assertFalse(is_bundle(TORUS, (1, 1, 1)) or is_bundle(TORUS, (1, 1, 4)))
        self.assertEqual(bundle_of(TORUS, (2, 2, 2)), [((0, 2, 1, 3), 1)])
        self.assertEqual(bundle_of(RING, (7,)), [((0,), 7)])
        self.assertEqual(numbers_of(TORUS, []), (0, 0, 0))
        self.assertEqual((bundle_of(TORUS, (0, 0, 0)), joined(TORUS, (0, 0, 0))), ([], {}))

    def test_numbers_lead_back_to_the_rounds(self):
        chance = chance_of(1)
        for _ in range(250):
            skin = chance_skin(chance, chance.randint(1, 6))
            rounds = chance_apart(chance, skin, 4, 5)
            numbers = numbers_of(skin, tuple(rounds))
            self.assertEqual(numbers, counted_numbers(skin, rounds))
            self.assertIs(is_bundle(skin, numbers), True)
            told = bundle_of(skin, numbers)
            self.assertEqual(sorted(rounds_in(told)), sorted(plain(skin, loop) for loop in rounds))
            self.assertEqual(told, sorted(set(told)))

    def test_all_small_rows_of_numbers(self):
        """All rows of small numbers on skins of two bands: those that are bundles' are those of just one bundle."""
        for row in all_rows(2):
            skin = Skin(row)
            seen = {}
            for numbers in product(range(5), range(5), range(9)):
                if is_bundle(skin, numbers):
                    told = bundle_of(skin, numbers)
                    rounds = rounds_in(told)
                    self.assertNotIn(str(told), seen)
                    seen[str(told)] = numbers
                    self.assertEqual(counted_numbers(skin, rounds), numbers)
                    for at, loop in enumerate(rounds):
                        self.assertEqual(chords_crossing(skin, loop, loop), 0)
                        self.assertFalse(any(chords_crossing(skin, loop, other) for other in rounds[at:]))
                else:
                    self.assertFalse(self.fits(skin, numbers))

    def fits(self, skin, numbers):
        """Whether all triangles let it, told by the document's own words."""
        heights = [numbers[skin.row[0] // 2]] + list(numbers[2:]) + [numbers[skin.row[-1] // 2]]
        for i in (1, 2):
            sides = sorted([heights[i - 1], heights[i], numbers[skin.row[i] // 2]])
            if sum(sides) % 2 or sides[2] > sides[0] + sides[1]:
                return False
        return True

    def test_drawn_numbers_are_bundles(self):
        chance = chance_of(2)
        for _ in range(200):
            skin = chance_skin(chance, chance.randint(1, 6))
            numbers = chance_numbers(chance, skin, 6)
            self.assertTrue(is_bundle(skin, numbers))
            told = bundle_of(skin, numbers)
            self.assertEqual(counted_numbers(skin, rounds_in(told)), numbers)
            for at, (loop, times) in enumerate(told):
                self.assertEqual(loop, plain(skin, loop))
                self.assertGreater(times, 0)
                if len(loop) <= 40:
                    self.assertEqual((own_crossings(skin, loop), root_of(skin, loop)[1]), (0, 1))
                for other, _ in told[at + 1:]:
                    self.assertEqual(chords_crossing(skin, loop, other), 0)

    def test_joined_counts_the_chords(self):
        chance = chance_of(3)
        for _ in range(150):
            skin = chance_skin(chance, chance.randint(1, 6))
            numbers = chance_numbers(chance, skin, 6)
            told = joined(skin, numbers)
            check_ascending(self, told)
            wanted = {}
            for loop in rounds_in(bundle_of(skin, numbers)):
                for at, letter in enumerate(loop):
                    pair = tuple(sorted((skin.row.index(loop[at - 1] ^ 1), skin.row.index(letter))))
                    wanted[pair] = wanted.get(pair, 0) + 1
            self.assertEqual(told, wanted)
            self.assertLessEqual(len(told), max(1, 4 * skin.bands - 3))

    def test_joined_of_great_numbers(self):
        chance = chance_of(4)
        for _ in range(60):
            skin = chance_skin(chance, chance.randint(2, 6))
            numbers = chance_numbers(chance, skin, TOP // 20)
            told = joined(skin, numbers)
            for place, end in enumerate(skin.row):
                ends = sum(many for pair, many in told.items() if place in pair)
                self.assertEqual(ends, numbers[end // 2])
            for i in range(2, 2 * skin.bands - 1):
                self.assertEqual(sum(many for (a, b), many in told.items() if a < i <= b), numbers[skin.bands + i - 2])
            for (a, b) in told:
                self.assertLess(a, b)
                self.assertFalse([pair for pair in told if a < pair[0] < b < pair[1]])

    def test_great_ones_at_the_bound(self):
        self.assertTrue(is_bundle(TORUS, (TOP - 1, TOP - 1, 0)) and is_bundle(TORUS, (TOP - 2, 0, TOP - 2)))
        self.assertFalse(is_bundle(TORUS, (TOP, TOP, 0)))
        self.assertTrue(is_bundle(RING, (TOP - 1,)))
        self.assertFalse(is_bundle(RING, (TOP,)))

    def test_of_any_value(self):
        for thing in NO_BUNDLES:
            self.assertIs(is_bundle(TORUS, thing), False, thing)
        self.assertIs(is_bundle(RING, ()), False)
        self.assertIs(is_bundle(RING, (3,)), True)

    def test_refused(self):
        for skin in NO_SKINS:
            check_error(self, BadSkin, ("part", None), is_bundle, skin, None)
            check_error(self, BadSkin, ("part", None), numbers_of, skin, None)
            check_error(self, BadSkin, ("part", None), joined, skin, None)
            check_error(self, BadSkin, ("part", None), bundle_of, skin, None)
        check_error(self, BadRounds, ("part", "list"), numbers_of, TORUS, None)
        check_error(self, BadRounds, ("part", 1), numbers_of, TORUS, [(0,), (4,)])
        for rounds in ([(0, 0)], [(0,), (2,)], [(0, 3), (0, 2)], [(0, 2, 0, 2)], [(0, 0, 2, 2)], [(2,), (0, 0, 2, 2)]):
            check_error(self, BadBundle, ("part", "rounds"), numbers_of, TORUS, rounds)
        for thing in NO_BUNDLES:
            check_error(self, BadBundle, ("part", "numbers"), joined, TORUS, thing)
            check_error(self, BadBundle, ("part", "numbers"), bundle_of, TORUS, thing)
        self.assertEqual(bundle_of(TORUS, (400, 0, 400)), [((0,), 400)])
        check_error(self, TooMany, ("most", 400), bundle_of, TORUS, (401, 0, 401))
        check_error(self, TooMany, ("most", 400), bundle_of, RING, (401,))


class LaidTest(unittest.TestCase):
    def test_laid_side_by_side(self):
        chance = chance_of(5)
        seen = [0, 0]
        for _ in range(150):
            skin = chance_skin(chance, chance.randint(1, 4))
            one, other = chance_numbers(chance, skin, 3), chance_numbers(chance, skin, 3)
            if chance.randrange(2):
                rounds = chance_apart(chance, skin, 4, 4)
                one, other = numbers_of(skin, rounds[:1]), numbers_of(skin, rounds[1:])
            both = laid(skin, one, other)
            self.assertTrue(is_bundle(skin, both))
            first, second = bundle_of(skin, one), bundle_of(skin, other)
            crossed = sum(chords_crossing(skin, loop, that) for loop in rounds_in(first) for that in rounds_in(second))
            all_rounds = sorted(rounds_in(first) + rounds_in(second))
            self.assertIs(all_rounds == sorted(rounds_in(bundle_of(skin, both))), crossed == 0)
            self.assertIs(is_apart(skin, one, other), crossed == 0)
            self.assertEqual(bundles_crossed(skin, one, other), crossed)
            seen[min(1, crossed)] += 1
            loop = chance_round(chance, skin, 6)
            parts = crossed_by(skin, one, loop) + crossed_by(skin, other, loop)
            self.assertLessEqual(crossed_by(skin, both, loop), parts)
            if crossed == 0:
                self.assertEqual(crossed_by(skin, both, loop), parts)
        self.assertGreater(min(seen), 20)

    def test_parts(self):
        chance = chance_of(6)
        for _ in range(100):
            skin = chance_skin(chance, chance.randint(1, 6))
            numbers = chance_numbers(chance, skin, 4)
            times = chance.choice([0, 1, 2, 3, 10 ** 9])
            great = multiplied(skin, numbers, times)
            self.assertEqual(kinds(skin, great), [(one, many * times) for one, many in kinds(skin, numbers) if times])
            if times:
                self.assertEqual(divided(skin, great, times), numbers)
            shares = chance.randint(1, 4)
            told = divided(skin, numbers, shares)
            if all(many % shares == 0 for _, many in kinds(skin, numbers)):
                self.assertEqual(kinds(skin, told), [(one, many // shares) for one, many in kinds(skin, numbers)])
            else:
                self.assertIsNone(told)

    def test_what_divides_but_is_no_bundle(self):
        self.assertEqual(kinds(TORUS, (2, 2, 2)), [((2, 2, 2), 1)])
        self.assertIsNone(divided(TORUS, (2, 2, 2), 2))
        self.assertIsNone(divided(TORUS, (2, 0, 2), 3))
        self.assertEqual(divided(TORUS, (0, 0, 0), 10 ** 9), (0, 0, 0))

    def test_bounds(self):
        half = (TOP // 2, 0, TOP // 2)
        check_error(self, TooMany, ("most", TOP), laid, TORUS, half, half)
        self.assertEqual(laid(TORUS, half, (TOP // 2 - 1, 0, TOP // 2 - 1)), (TOP - 1, 0, TOP - 1))
        check_error(self, TooMany, ("most", TOP), multiplied, TORUS, half, 2)
        self.assertEqual(multiplied(TORUS, half, 0), (0, 0, 0))
        # The height alone is too great here: the bands' numbers are not.
        check_error(self, TooMany, ("most", TOP), multiplied, HOLES, (TOP // 3, TOP // 3, 2 * (TOP // 3)), 2)
        great = (TOP - 1, 0, TOP - 1)
        self.assertEqual(bundles_crossed(TORUS, great, (0, 400, 400)), 400 * (TOP - 1))
        self.assertEqual(bundles_crossed(TORUS, (0, 400, 400), great), 400 * (TOP - 1))
        check_error(self, TooMany, ("most", 400), bundles_crossed, TORUS, great, (0, 401, 401))
        self.assertIs(is_apart(TORUS, great, (0, 401, 401)), False)
        self.assertIs(is_apart(TORUS, great, great), True)
        self.assertIs(is_apart(HOLES, (TOP - 1, 0, 0), (0, TOP - 1, 0)), True)

    def test_crossed_both_ways(self):
        chance = chance_of(7)
        for _ in range(60):
            skin = chance_skin(chance, chance.randint(1, 6))
            one, other = chance_numbers(chance, skin, 5), chance_numbers(chance, skin, 10 ** 55)
            many = bundles_crossed(skin, one, other)
            self.assertEqual(bundles_crossed(skin, other, one), many)
            self.assertIs(is_apart(skin, one, other), many == 0)
            self.assertIs(is_apart(skin, other, one), many == 0)
            self.assertEqual(bundles_crossed(skin, one, one), 0)
            self.assertTrue(is_apart(skin, other, other))

    def test_refused(self):
        good = (1, 1, 2)
        for thing in NO_BUNDLES:
            for act in (laid, bundles_crossed, is_apart):
                check_error(self, BadBundle, ("part", "one"), act, TORUS, thing, None)
                check_error(self, BadBundle, ("part", "other"), act, TORUS, good, thing)
            check_error(self, BadBundle, ("part", "numbers"), multiplied, TORUS, thing, None)
            check_error(self, BadBundle, ("part", "numbers"), divided, TORUS, thing, None)
        for number in NO_NUMBERS + [-1, 10 ** 9 + 1]:
            check_error(self, BadNumber, ("part", "times"), multiplied, TORUS, good, number)
            check_error(self, BadNumber, ("part", "shares"), divided, TORUS, good, number)
        check_error(self, BadNumber, ("part", "shares"), divided, TORUS, good, 0)
        for skin in NO_SKINS:
            for act in (laid, bundles_crossed, is_apart, multiplied, divided):
                check_error(self, BadSkin, ("part", None), act, skin, None, None)

    def test_what_is_handed_in_stays_and_what_is_told_is_new(self):
        rounds = [(0, 2), (0, 2)]
        before = copy.deepcopy(rounds)
        self.assertEqual(numbers_of(skin=TORUS, rounds=rounds), (2, 2, 4))
        self.assertEqual(rounds, before)
        told = bundle_of(skin=TORUS, numbers=(2, 2, 4))
        told.append(None)
        self.assertEqual(bundle_of(TORUS, (2, 2, 4)), [((0, 2), 2)])
        pairs = joined(skin=TORUS, numbers=(2, 2, 4))
        pairs[None] = 1
        self.assertEqual(joined(TORUS, (2, 2, 4)), {(0, 3): 2, (1, 2): 2})
        self.assertIs(is_bundle(skin=TORUS, thing=(2, 2, 4)), True)
        self.assertEqual(laid(skin=TORUS, one=(1, 1, 2), other=(1, 1, 2)), (2, 2, 4))
        self.assertEqual(multiplied(skin=TORUS, numbers=(1, 1, 2), times=2), (2, 2, 4))
        self.assertEqual(divided(skin=TORUS, numbers=(2, 2, 4), shares=2), (1, 1, 2))
        self.assertEqual(bundles_crossed(skin=TORUS, one=(1, 1, 2), other=(1, 0, 1)), 1)
        self.assertIs(is_apart(skin=TORUS, one=(1, 1, 2), other=(1, 0, 1)), False)
        self.assertEqual(crossings(TORUS, (0, 2), turned_about(TORUS, (0,))), 1)


if __name__ == "__main__":
    unittest.main()
