"""Promises [3], [4], [22]: simple rounds and even rounds."""

import unittest
from itertools import product
from math import gcd

from tautrounds.errors import BadNumber, BadRound, BadSkin, TooMany
from tautrounds.linked import crossings, own_crossings
from tautrounds.rounds import root_of, round_of, turned_about
from tautrounds.simple import is_even, is_simple, simple_rounds, words_many
from tautrounds.skins import Skin, rims
from tests.helpers import (
    HOLES, NO_NUMBERS, NO_SKINS, RING, TORUS, all_rounds, chance_of, chance_round, chance_skin, check_error,
)
from tests.test_rounds import NO_ROUNDS

HANDLES = [Skin((0, 2, 1, 3)), Skin((0, 3, 1, 2))]
PANTS = [Skin(row) for row in ((0, 1, 2, 3), (0, 1, 3, 2), (0, 2, 3, 1), (0, 3, 2, 1))]


def rims_both_ways(skin):
    return rims(skin) + [turned_about(skin, rim) for rim in rims(skin)]


def slope(loop):
    return loop.count(0) - loop.count(1), loop.count(2) - loop.count(3)


def is_even_by_words(loop):
    """From the document's words."""
    if any(letter ^ 1 in loop for letter in loop):
        return False
    for size in range(1, len(loop)):
        windows = [(loop + loop)[at:at + size] for at in range(len(loop))]
        for band in range(6):
            counts = [sum(1 for letter in window if letter // 2 == band) for window in windows]
            if max(counts) - min(counts) > 1:
                return False
    return True


class SimpleTest(unittest.TestCase):
    def test_exactly_if_no_own_crossings(self):
        chance = chance_of(70)
        for bands in (1, 2, 3, 4, 5, 6):
            for _ in range(30):
                skin = chance_skin(chance, bands)
                loop = chance_round(chance, skin, 6)
                self.assertIs(is_simple(skin=skin, loop=loop), own_crossings(skin, loop) == 0)
        self.assertIs(is_simple(TORUS, (0, 0)), False)
        self.assertIs(is_simple(TORUS, (0, 2)), True)
        self.assertIs(is_simple(HOLES, (0, 3)), False)

    def test_errors_in_sequence(self):
        for act in (is_simple, is_even):
            for skin in NO_SKINS:
                check_error(self, BadSkin, ("part", None), act, skin, None)
            for thing in NO_ROUNDS:
                check_error(self, BadRound, None, act, TORUS, thing)


class SimpleRoundsTest(unittest.TestCase):
    def test_of_all_rounds(self):
        chance = chance_of(71)
        for bands, most in ((1, 8), (2, 6), (3, 4), (4, 3), (5, 3), (6, 2)):
            for _ in range(3):
                skin = chance_skin(chance, bands)
                wanted = [loop for loop in all_rounds(skin, most) if own_crossings(skin, loop) == 0]
                found = simple_rounds(skin=skin, most=most)
                self.assertEqual(found, wanted)
                self.assertEqual(found, sorted(found, key=lambda loop: (len(loop), loop)))
                for rim in rims_both_ways(skin):
                    self.assertTrue(rim in found or len(rim) > most)

    def test_bound_of_words(self):
        chance = chance_of(72)
        for bands, first in ((3, 6), (4, 5), (5, 5), (6, 4)):
            skin = chance_skin(chance, bands)
            found = simple_rounds(skin, first - 1)
            self.assertEqual(max(map(len, found)), first - 1)
            for most in range(first, 9):
                check_error(self, TooMany, ("most", 10000), simple_rounds, skin, most)
        for skin in (RING, TORUS, HOLES):
            for most in range(1, 9):
                self.assertLessEqual(len(simple_rounds(skin, most)), 10000)

    def test_bound_is_that_of_words(self):
        for bands, longest in ((1, 8), (2, 6), (3, 5), (4, 4), (5, 4), (6, 3)):
            many = 0
            for size in range(1, longest + 1):
                for word in product(range(2 * bands), repeat=size):
                    many += all(word[at - 1] != word[at] ^ 1 for at in range(size))
                self.assertEqual(words_many(bands, size), many)

    def test_errors_in_sequence(self):
        for skin in NO_SKINS:
            check_error(self, BadSkin, ("part", None), simple_rounds, skin, None)
        six = Skin(list(range(12)))
        for most in NO_NUMBERS + [0, 9, -1, 10 ** 20]:
            check_error(self, BadNumber, ("part", "most"), simple_rounds, RING, most)
            check_error(self, BadNumber, ("part", "most"), simple_rounds, six, most)


class EvenTest(unittest.TestCase):
    def test_by_words(self):
        chance = chance_of(73)
        for bands in (1, 2, 3, 4, 5, 6):
            skin = chance_skin(chance, bands)
            for loop in all_rounds(skin, 6 if bands < 3 else 3):
                self.assertIs(is_even(skin, loop), is_even_by_words(loop))
            for _ in range(30):
                loop = chance_round(chance, skin, 14)
                self.assertIs(is_even(skin=skin, loop=loop), is_even_by_words(loop))

    def test_by_hand(self):
        for loop in [(0,), (0, 0), (0, 2), (0, 0, 2), (0, 2, 0, 2), (0, 0, 2, 0, 2), (0,) * 40, (0,) * 39 + (2,)]:
            self.assertIs(is_even(TORUS, loop), True)
        for loop in [(0, 0, 2, 2), (0, 3, 1, 2), (0, 0, 0, 2, 0, 2), (0, 2, 1, 2)]:
            self.assertIs(is_even(TORUS, loop), False)


class OneHandleTest(unittest.TestCase):
    def test_simple_exactly_if_even(self):
        for skin in HANDLES:
            rim = rims_both_ways(skin)
            for loop in all_rounds(skin, 7):
                if loop not in rim:
                    is_root = root_of(skin, loop) == (loop, 1)
                    self.assertIs(is_simple(skin, loop), is_root and is_even(skin, loop))

    def test_one_for_each_slope(self):
        for skin in HANDLES:
            rim = rims_both_ways(skin)
            found = [loop for loop in simple_rounds(skin, 8) if loop not in rim]
            slopes = [slope(loop) for loop in found]
            wanted = [(p, q) for p in range(-8, 9) for q in range(-8, 9) if abs(p) + abs(q) <= 8 and gcd(p, q) == 1]
            self.assertEqual(sorted(slopes), sorted(wanted))
            for loop, (p, q) in zip(found, slopes):
                self.assertEqual(len(loop), abs(p) + abs(q))
            sizes = [sum(1 for loop in found if len(loop) == size) for size in range(1, 9)]
            self.assertEqual(sizes, [4, 4, 8, 8, 16, 8, 24, 16])
            for one, (p, q) in zip(found, slopes):
                for other, (r, s) in zip(found[::5], slopes[::5]):
                    if (r, s) not in ((p, q), (-p, -q)):
                        self.assertEqual(crossings(skin, one, other), abs(p * s - q * r))

    def test_long_ones(self):
        for p, q in ((1, 39), (17, 23), (9, 31)):
            loop = round_of(TORUS, tuple(0 if at * p % 40 < p else 2 for at in range(40)))
            self.assertEqual(slope(loop), (p, q))
            self.assertTrue(is_simple(TORUS, loop) and is_even(TORUS, loop))


class FewBandsTest(unittest.TestCase):
    def test_a_disc_with_two_holes(self):
        for skin in PANTS:
            self.assertEqual(sorted(simple_rounds(skin, 8)), sorted(rims_both_ways(skin)))

    def test_one_band(self):
        for most in range(1, 9):
            self.assertEqual(simple_rounds(RING, most), [(0,), (1,)])

    def test_rims(self):
        chance = chance_of(74)
        for bands in (1, 2, 3, 4, 5, 6):
            for _ in range(10):
                skin = chance_skin(chance, bands)
                for rim in rims_both_ways(skin):
                    self.assertIs(is_simple(skin, rim), True)
                    self.assertEqual(crossings(skin, rim, chance_round(chance, skin, 8)), 0)


if __name__ == "__main__":
    unittest.main()
