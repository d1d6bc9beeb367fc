"""Promise k64, point [83]: how often rounds cross bundles, and the rims among their rounds."""

import unittest

from tautrounds.bundles import bundle_of, is_bundle, numbers_of
from tautrounds.errors import BadBundle, BadRound, BadSkin
from tautrounds.leads import twisted_bundle
from tautrounds.linked import crossings
from tautrounds.roundkinds import kinds
from tautrounds.rounds import turned_about
from tautrounds.simple import simple_rounds
from tautrounds.skins import rims
from tautrounds.strips import crossed_by, rim_times, without_rims
from tests.helpers import (
    HOLES, NO_SKINS, ODD_VALUES, RING, TORUS, all_rounds, chance_numbers, chance_of, chance_round, chance_rounds,
    chance_simple, chance_skin, check_error, chords_crossing, plain, rounds_in,
)

TOP = 10 ** 60
NO_BUNDLES = ODD_VALUES + [(1, 1, 1), [1, 1, 2], (TOP, TOP, 0), (True, 1, 2)]


class CrossedByTest(unittest.TestCase):
    def test_by_hand(self):
        self.assertEqual(bundle_of(TORUS, (2, 3, 1)), [((0, 3, 0, 3, 3), 1)])
        loops = [(0,), (2,), (0, 2), (0, 3)]
        self.assertEqual([crossed_by(TORUS, (2, 3, 1), loop) for loop in loops], [3, 2, 5, 1])
        self.assertEqual(crossed_by(HOLES, (5, 4, 6), (0, 3)), 0)

    def test_counted_by_chords(self):
        chance = chance_of(1)
        for _ in range(200):
            skin = chance_skin(chance, chance.randint(1, 6))
            numbers = chance_numbers(chance, skin, 3)
            rounds = bundle_of(skin, numbers)
            loop = chance_round(chance, skin, 9)
            loop = loop * chance.choice([1, 1, 2, 3])
            told = crossed_by(skin, numbers, loop)
            self.assertEqual(told, sum(times * chords_crossing(skin, loop, other) for other, times in rounds))

    def test_along_the_bundle_for_long(self):
        """Rounds that go along those of a bundle many times, ahead of crossing them, or never do."""
        chance = chance_of(2)
        for _ in range(80):
            skin = chance_skin(chance, chance.randint(2, 4))
            loop = chance_simple(chance, skin, 5)
            other = chance_simple(chance, skin, 5)
            far = twisted_bundle(skin, loop, chance.choice([-10 ** 12, -17, 9, 10 ** 12]), numbers_of(skin, [other]))
            self.assertEqual(crossed_by(skin, far, loop), crossings(skin, loop, other))
            for (one, times) in kinds(skin, far):
                self.assertEqual(times, 1)

    def test_facts_of_great_numbers(self):
        chance = chance_of(3)
        for _ in range(80):
            skin = chance_skin(chance, chance.randint(1, 6))
            numbers = chance_numbers(chance, skin, TOP // 20)
            loop = chance_round(chance, skin, 12)
            many = crossed_by(skin, numbers, loop)
            self.assertEqual(crossed_by(skin, numbers, turned_about(skin, loop)), many)
            self.assertEqual(crossed_by(skin, numbers, loop * 3), 3 * many)
            self.assertEqual(sum(times * crossed_by(skin, one, loop) for one, times in kinds(skin, numbers)), many)
            for rim in rims(skin):
                self.assertEqual(crossed_by(skin, numbers, rim), 0)
        for loop, times in bundle_of(skin, chance_numbers(chance, skin, 6)):
            if len(loop) <= 40:
                self.assertEqual(crossed_by(skin, numbers_of(skin, [loop]), loop), 0)

    def test_rounds_of_the_bundle_do_not_cross_it(self):
        chance = chance_of(4)
        for _ in range(60):
            skin = chance_skin(chance, chance.randint(1, 6))
            numbers = chance_numbers(chance, skin, 5)
            for loop, _ in bundle_of(skin, numbers):
                if len(loop) <= 40:
                    self.assertEqual(crossed_by(skin, numbers, loop), 0)

    def test_one_handle(self):
        chance = chance_of(5)
        loops = [loop for loop in simple_rounds(TORUS, 8)]
        for _ in range(60):
            x, y, h = chance_numbers(chance, TORUS, chance.choice([5, TOP // 10]))
            r = rim_times(TORUS, (x, y, h))[0]
            a, b = x - 2 * r, y - 2 * r
            if h - 2 * r != a + b:
                b = -b
            for loop in chance.sample(loops, 12):
                p, q = loop.count(0) - loop.count(1), loop.count(2) - loop.count(3)
                self.assertEqual(crossed_by(TORUS, (x, y, h), loop), abs(p * b - q * a))

    def test_forty_letters_cross_sixty_figures(self):
        chance = chance_of(6)
        for _ in range(20):
            skin = chance_skin(chance, 6)
            numbers = chance_numbers(chance, skin, TOP // 20)
            loop = chance_round(chance, skin, 40)
            self.assertGreaterEqual(crossed_by(skin, numbers, loop), 0)
        self.assertEqual(crossed_by(TORUS, (TOP - 1, 0, TOP - 1), (2,) * 40), 40 * (TOP - 1))


class RimsTest(unittest.TestCase):
    def test_by_hand(self):
        self.assertEqual(rim_times(HOLES, (5, 4, 6)), [3, 2, 1])
        self.assertEqual(without_rims(HOLES, (5, 4, 6)), (0, 0, 0))
        self.assertEqual((rim_times(RING, (7,)), without_rims(RING, (7,))), ([7, 7], (0,)))

    def test_counted_among_the_rounds(self):
        chance = chance_of(7)
        for _ in range(150):
            skin = chance_skin(chance, chance.randint(1, 6))
            numbers = chance_numbers(chance, skin, 6)
            rounds = rounds_in(bundle_of(skin, numbers))
            wanted = [rounds.count(plain(skin, rim)) for rim in rims(skin)]
            self.assertEqual(rim_times(skin, numbers), wanted)
            left = without_rims(skin, numbers)
            self.assertTrue(is_bundle(skin, left))
            others = [loop for loop in rounds if loop not in [plain(skin, rim) for rim in rims(skin)]]
            self.assertEqual(rounds_in(bundle_of(skin, left)), others)

    def test_great_numbers(self):
        chance = chance_of(8)
        for _ in range(50):
            skin = chance_skin(chance, chance.randint(2, 6))
            numbers = chance_numbers(chance, skin, TOP // 20)
            told = dict(kinds(skin, numbers))
            wanted = [told.pop(numbers_of(skin, [rim]), 0) for rim in rims(skin)]
            self.assertEqual(rim_times(skin, numbers), wanted)
            self.assertEqual(kinds(skin, without_rims(skin, numbers)), sorted(told.items()))

    def test_no_rims_needed_to_cross_all_rounds(self):
        """A bundle whose rounds are rims crosses no round; any other one crosses one of few letters."""
        chance = chance_of(9)
        for _ in range(40):
            skin = chance_skin(chance, chance.randint(2, 3))
            numbers = chance_numbers(chance, skin, 4)
            crossed = [loop for loop in all_rounds(skin, 2) if crossed_by(skin, numbers, loop)]
            self.assertIs(not crossed, not any(without_rims(skin, numbers)))

    def test_refused(self):
        for skin in NO_SKINS:
            check_error(self, BadSkin, ("part", None), crossed_by, skin, None, None)
            check_error(self, BadSkin, ("part", None), rim_times, skin, None)
            check_error(self, BadSkin, ("part", None), without_rims, skin, None)
        for thing in NO_BUNDLES:
            check_error(self, BadBundle, ("part", "numbers"), crossed_by, TORUS, thing, None)
            check_error(self, BadBundle, ("part", "numbers"), rim_times, TORUS, thing)
            check_error(self, BadBundle, ("part", "numbers"), without_rims, TORUS, thing)
        for loop in ODD_VALUES + [(), (2, 0), [0], (0, 1), (4,), (0,) * 41]:
            check_error(self, BadRound, None, crossed_by, TORUS, (1, 1, 2), loop)

    def test_named_arguments_and_new_lists(self):
        told = rim_times(skin=HOLES, numbers=(5, 4, 6))
        told.append(None)
        self.assertEqual(rim_times(HOLES, (5, 4, 6)), [3, 2, 1])
        self.assertEqual(without_rims(skin=HOLES, numbers=(5, 4, 6)), (0, 0, 0))
        self.assertEqual(crossed_by(skin=TORUS, numbers=(2, 3, 1), loop=(0, 2)), 5)
        self.assertTrue(chance_rounds(chance_of(1), TORUS, 1, 1))


if __name__ == "__main__":
    unittest.main()
