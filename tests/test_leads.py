"""Promises k66 to k68, k73, points [82] to [86]: bundles led by slides, changes and twists."""

import unittest

from tautrounds.bundles import bundle_of, bundles_crossed, is_apart, is_bundle, multiplied, numbers_of
from tautrounds.changes import is_change, undone_change
from tautrounds.errors import BadBundle, BadImages, BadNumber, BadRound, BadSkin, NotNow, NotSimple, TooMany
from tautrounds.leads import led_bundle, slid_bundle, twisted_bundle
from tautrounds.linked import crossings
from tautrounds.roundkinds import kinds, rounds_many
from tautrounds.skins import Skin, rims
from tautrounds.slides import led, slid
from tautrounds.strips import crossed_by, rim_times
from tautrounds.twists import twist
from tautrounds.words import cut_free, gone_back
from tests.helpers import (
    HOLES, NO_NUMBERS, NO_SKINS, ODD_VALUES, RING, TORUS, chance_apart, chance_change, chance_numbers, chance_of,
    chance_round, chance_simple, chance_skin, chance_turning, chance_word, check_error, counted_numbers, led_round,
    rounds_in,
)

TOP = 10 ** 60
NO_BUNDLES = ODD_VALUES + [(1, 1, 1), [1, 1, 2], (TOP, TOP, 0), (True, 1, 2)]


def led_by_rounds(skin, images, numbers):
    """The numbers of the rounds to which those of a bundle are led, one by one."""
    rounds = [led_round(skin, images, loop) for loop in rounds_in(bundle_of(skin, numbers))]
    return rounds


class SlidesTest(unittest.TestCase):
    def test_by_hand(self):
        self.assertEqual(slid_bundle(TORUS, 0, 1, (1, 1, 2)), (1, 2, 3))
        self.assertEqual(slid_bundle(HOLES, 1, 1, (1, 1, 2)), (1, 0, 1))

    def test_led_round_by_round(self):
        chance = chance_of(1)
        done = 0
        while done < 150:
            skin = chance_skin(chance, chance.randint(2, 6))
            numbers = chance_numbers(chance, skin, 5)
            end, side = chance.randrange(2 * skin.bands), chance.choice([1, -1])
            try:
                other, images = slid(skin, end, side)
            except NotNow:
                check_error(self, NotNow, None, slid_bundle, skin, end, side, numbers)
                continue
            done += 1
            told = slid_bundle(skin, end, side, numbers)
            self.assertEqual(told, counted_numbers(other, led_by_rounds(skin, images, numbers)))
            self.assertEqual(slid_bundle(other, end, -side, told), numbers)

    def test_great_numbers(self):
        chance = chance_of(2)
        for _ in range(60):
            skin = chance_skin(chance, chance.randint(2, 6))
            numbers = chance_numbers(chance, skin, TOP // 100)
            loop = chance_round(chance, skin, 8)
            end, side = chance.randrange(2 * skin.bands), chance.choice([1, -1])
            try:
                other, images = slid(skin, end, side)
            except NotNow:
                continue
            told = slid_bundle(skin, end, side, numbers)
            self.assertTrue(is_bundle(other, told))
            self.assertEqual(crossed_by(other, told, led_round(skin, images, loop)), crossed_by(skin, numbers, loop))
            wanted = sorted((slid_bundle(skin, end, side, one), many) for one, many in kinds(skin, numbers))
            self.assertEqual(kinds(other, told), wanted)
            self.assertEqual(slid_bundle(other, end, -side, told), numbers)
            self.assertEqual(sorted(rim_times(other, told)), sorted(rim_times(skin, numbers)))

    def test_refused(self):
        for skin in NO_SKINS:
            check_error(self, BadSkin, ("part", None), slid_bundle, skin, None, None, None)
        for end in NO_NUMBERS + [-1, 4]:
            check_error(self, BadNumber, ("part", "end"), slid_bundle, TORUS, end, None, None)
        for side in NO_NUMBERS + [0, 2]:
            if side != 1.0 or type(side) is not int:
                check_error(self, BadNumber, ("part", "side"), slid_bundle, TORUS, 0, side, None)
        check_error(self, NotNow, None, slid_bundle, HOLES, 0, 1, None)
        check_error(self, NotNow, None, slid_bundle, RING, 0, 1, None)
        for thing in NO_BUNDLES:
            check_error(self, BadBundle, ("part", "numbers"), slid_bundle, TORUS, 0, 1, thing)
        check_error(self, TooMany, ("most", TOP), slid_bundle, TORUS, 0, 1, (TOP // 2, TOP // 2, TOP - 2))
        self.assertEqual(slid_bundle(skin=TORUS, end=0, side=1, numbers=(1, 1, 2)), (1, 2, 3))


class ChangesTest(unittest.TestCase):
    def test_led_round_by_round(self):
        chance = chance_of(3)
        turned = 0
        for _ in range(150):
            skin = chance_skin(chance, chance.randint(1, 5))
            numbers = chance_numbers(chance, skin, 3)
            images = chance_change(chance, skin, chance.randint(0, 3))
            turning = chance_turning(chance, skin) if chance.randrange(2) else None
            if turning is not None:
                images = [led(skin, images, word) for word in turning]
                turned += 1
            self.assertTrue(is_change(skin, images))
            told = led_bundle(skin, images, numbers)
            self.assertEqual(told, counted_numbers(skin, led_by_rounds(skin, images, numbers)))
            loop = chance_round(chance, skin, 5)
            led_loop = led_round(skin, images, loop)
            if len(led_loop) <= 40:
                self.assertEqual(crossed_by(skin, told, led_loop), crossed_by(skin, numbers, loop))
        self.assertGreater(turned, 20)

    def test_turned_about(self):
        """A change that leads rims to rims turned about, by hand: both handles' ways change their parts."""
        images = [(2,), (3,), (0,), (1,)]
        self.assertTrue(is_change(TORUS, images))
        self.assertEqual(led_bundle(TORUS, images, (2, 3, 1)), (3, 2, 1))
        self.assertEqual(led_bundle(TORUS, images, (5, 3, 8)), (3, 5, 8))
        turned = [(1,), (0,), (2,), (3,)]
        self.assertEqual(led_bundle(TORUS, turned, (2, 3, 1)), (2, 3, 5))

    def test_great_numbers_and_long_words(self):
        chance = chance_of(4)
        for _ in range(25):
            skin = chance_skin(chance, chance.randint(2, 6))
            numbers = chance_numbers(chance, skin, 10 ** 45)
            images = chance_change(chance, skin, 12)
            ahead = chance_word(chance, skin, chance.choice([0, 20]))
            moved = [cut_free(ahead + word + gone_back(ahead)) for word in images]
            if max(map(len, moved)) <= 200:
                images = moved
            told = led_bundle(skin, images, numbers)
            wanted = sorted((led_bundle(skin, images, one), many) for one, many in kinds(skin, numbers))
            self.assertEqual(kinds(skin, told), wanted)
            try:
                back = undone_change(skin, images)
            except TooMany:
                continue
            self.assertEqual(led_bundle(skin, back, told), numbers)

    def test_inner_images_lead_nothing(self):
        chance = chance_of(5)
        for _ in range(20):
            skin = chance_skin(chance, chance.randint(1, 6))
            ahead = cut_free(chance_word(chance, skin, 120))[:99]
            images = [cut_free(ahead + (letter,) + gone_back(ahead)) for letter in range(2 * skin.bands)]
            numbers = chance_numbers(chance, skin, TOP // 20)
            self.assertEqual(led_bundle(skin, images, numbers), numbers)

    def test_refused(self):
        same = [(0,), (1,), (2,), (3,)]
        for skin in NO_SKINS:
            check_error(self, BadSkin, ("part", None), led_bundle, skin, None, None)
        for images in ODD_VALUES + [same[:3], [(0, 0), (1, 1), (2,), (3,)], [(0, 2), (1,), (2,), (3,)]]:
            check_error(self, BadImages, None, led_bundle, TORUS, images, None)
        # These can be undone, but lead rims to no rims.
        check_error(self, BadImages, None, led_bundle, HOLES, [(0, 2), (3, 1), (2,), (3,)], None)
        for thing in NO_BUNDLES:
            check_error(self, BadBundle, ("part", "numbers"), led_bundle, TORUS, same, thing)
        images = twist(TORUS, (0,), -1)
        check_error(self, TooMany, ("most", TOP), led_bundle, TORUS, images, (0, TOP // 2, TOP // 2))
        self.assertEqual(led_bundle(skin=TORUS, images=images, numbers=(0, 1, 1)), (1, 1, 2))
        self.assertEqual(images, twist(TORUS, (0,), -1))


class TwistsTest(unittest.TestCase):
    def test_by_hand(self):
        told = [twisted_bundle(TORUS, (0,), times, (0, 1, 1)) for times in (1, -1, 5, 10 ** 12)]
        self.assertEqual(told, [(1, 1, 0), (1, 1, 2), (5, 1, 4), (10 ** 12, 1, 10 ** 12 - 1)])

    def test_as_by_images(self):
        chance = chance_of(6)
        for _ in range(150):
            skin = chance_skin(chance, chance.randint(1, 6))
            numbers = chance_numbers(chance, skin, chance.choice([3, 10 ** 40]))
            loop, times = chance_simple(chance, skin, 8), chance.randint(-9, 9)
            told = twisted_bundle(skin, loop, times, numbers)
            try:
                images = twist(skin, loop, times)
            except TooMany:
                continue
            self.assertEqual(told, led_bundle(skin, images, numbers))
            if max(numbers) <= 40:
                self.assertEqual(told, counted_numbers(skin, led_by_rounds(skin, images, numbers)))

    def test_any_times(self):
        """The bounds of the document for each number, at any times: and what is left behind many times."""
        chance = chance_of(7)
        for _ in range(60):
            skin = chance_skin(chance, chance.randint(2, 6))
            loop = chance_simple(chance, skin, 8)
            numbers = chance_numbers(chance, skin, chance.choice([2, 10 ** 5, 10 ** 11]))
            c, a = crossed_by(skin, numbers, loop), numbers_of(skin, [loop])
            k = chance.choice([1, 2, 3, 1000, 10 ** 6 + 1, 10 ** 12 - 2]) * chance.choice([1, -1])
            rows = [twisted_bundle(skin, loop, times, numbers) for times in (k - 1, k, k + 1)]
            for v, x, low, here, high in zip(numbers, a, *rows):
                self.assertTrue(abs(k) * c * x - v <= here <= abs(k) * c * x + v)
                self.assertLessEqual(2 * here, low + high)
                if abs(k) > v + 1:
                    self.assertEqual(high - here, c * x if k > 0 else -c * x)
            self.assertEqual(crossed_by(skin, rows[1], loop), c)
            self.assertEqual(twisted_bundle(skin, loop, -k, rows[1]), numbers)
            self.assertEqual(rounds_many(skin, rows[1]), rounds_many(skin, numbers))
            self.assertEqual(rim_times(skin, rows[1]), rim_times(skin, numbers))

    def test_rims_and_rounds_that_do_not_cross(self):
        chance = chance_of(8)
        for _ in range(40):
            skin = chance_skin(chance, chance.randint(1, 6))
            numbers = chance_numbers(chance, skin, TOP // 20)
            self.assertEqual(twisted_bundle(skin, chance.choice(rims(skin)), 10 ** 12, numbers), numbers)
            rounds = chance_apart(chance, skin, 3, 5)
            apart = numbers_of(skin, rounds)
            self.assertEqual(twisted_bundle(skin, rounds[0], -10 ** 12, apart), apart)

    def test_many_crossings(self):
        chance = chance_of(9)
        for _ in range(40):
            skin = chance_skin(chance, chance.randint(2, 5))
            one, other = chance_simple(chance, skin, 6), chance_simple(chance, skin, 6)
            k = chance.choice([-3, 5, 10 ** 12])
            led_one = twisted_bundle(skin, one, k, numbers_of(skin, [other]))
            self.assertEqual(crossed_by(skin, led_one, other), abs(k) * crossings(skin, one, other) ** 2)

    def test_refused(self):
        for skin in NO_SKINS:
            check_error(self, BadSkin, ("part", None), twisted_bundle, skin, None, None, None)
        for loop in ODD_VALUES + [(), (2, 0), (0, 1), (4,), (0,) * 41]:
            check_error(self, BadRound, None, twisted_bundle, TORUS, loop, None, None)
        check_error(self, NotSimple, None, twisted_bundle, TORUS, (0, 0), None, None)
        check_error(self, NotSimple, None, twisted_bundle, HOLES, (0, 3), None, None)
        for times in NO_NUMBERS + [10 ** 12 + 1, -10 ** 12 - 1]:
            check_error(self, BadNumber, ("part", "times"), twisted_bundle, TORUS, (0,), times, None)
        for thing in NO_BUNDLES:
            check_error(self, BadBundle, ("part", "numbers"), twisted_bundle, TORUS, (0,), 0, thing)
        great = (0, 10 ** 48, 10 ** 48)
        check_error(self, TooMany, ("most", TOP), twisted_bundle, TORUS, (0,), 10 ** 12, great)
        self.assertEqual(twisted_bundle(TORUS, (0,), 10 ** 12 - 1, great)[0], TOP - 10 ** 48)
        told = twisted_bundle(skin=TORUS, loop=(0,), times=1, numbers=(0, 1, 1))
        self.assertEqual(told, (1, 1, 0))


class TogetherTest(unittest.TestCase):
    """What the document promises of bundles, over several of its points ([82] to [86])."""

    def test_crossed_numbers_stay(self):
        chance = chance_of(10)
        for _ in range(40):
            skin = chance_skin(chance, chance.randint(2, 5))
            one, other = chance_numbers(chance, skin, 2), chance_numbers(chance, skin, 10 ** 30)
            many = bundles_crossed(skin, one, other)
            images = chance_change(chance, skin, 2)
            rows = [led_bundle(skin, images, numbers) for numbers in (one, other)]
            self.assertIs(is_apart(skin, *rows), many == 0)
            if sum(rows[0][:skin.bands]) <= 400:
                self.assertEqual(bundles_crossed(skin, *rows), many)
            loop = chance_simple(chance, skin, 5)
            far = [twisted_bundle(skin, loop, 10 ** 9, numbers) for numbers in (one, other)]
            self.assertIs(is_apart(skin, *far), many == 0)

    def test_twists_of_bundles_in_either_sequence(self):
        chance = chance_of(11)
        for _ in range(30):
            skin = chance_skin(chance, chance.randint(2, 6))
            rounds = chance_apart(chance, skin, 2, 5)
            numbers = chance_numbers(chance, skin, 10 ** 20)
            first = twisted_bundle(skin, rounds[-1], 7 ** 9, twisted_bundle(skin, rounds[0], -10 ** 11, numbers))
            second = twisted_bundle(skin, rounds[0], -10 ** 11, twisted_bundle(skin, rounds[-1], 7 ** 9, numbers))
            self.assertEqual(first, second)

    def test_dehns_lantern_and_the_handle(self):
        chance = chance_of(12)
        four = Skin((0, 1, 2, 3, 4, 5))
        for _ in range(20):
            numbers = chance_numbers(chance, four, 10 ** 40)
            told = numbers
            for loop in ((0, 2), (2, 4), (0, 4)):
                told = twisted_bundle(four, loop, 1, told)
            self.assertEqual(told, numbers)
            numbers = chance_numbers(chance, TORUS, 10 ** 40)
            told = numbers
            for loop in ((0,), (2,)) * 3:
                told = twisted_bundle(TORUS, loop, 1, told)
            self.assertEqual(told, numbers)

    def test_led_kinds_of_great_bundles(self):
        chance = chance_of(13)
        for _ in range(20):
            skin = chance_skin(chance, chance.randint(2, 6))
            numbers = multiplied(skin, chance_numbers(chance, skin, 10 ** 30), 10 ** 9)
            loop = chance_simple(chance, skin, 8)
            told = twisted_bundle(skin, loop, 10 ** 9 + 7, numbers)
            wanted = sorted((twisted_bundle(skin, loop, 10 ** 9 + 7, one), many) for one, many in kinds(skin, numbers))
            self.assertEqual(kinds(skin, told), wanted)
            self.assertTrue(all(many % 10 ** 9 == 0 for _, many in kinds(skin, told)))


if __name__ == "__main__":
    unittest.main()
