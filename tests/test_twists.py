"""Promises [2] (e), [51]: twists."""

import unittest

from tautrounds.best import best_drawing
from tautrounds.brackets import bracket
from tautrounds.changes import behind, is_change, led_sum, undone_change
from tautrounds.errors import BadNumber, BadRound, BadSkin, NotSimple, TooMany
from tautrounds.linked import crossings, own_crossings, pairs_of
from tautrounds.rounds import along, turned_about
from tautrounds.simple import simple_rounds
from tautrounds.skins import Skin, rims
from tautrounds.slides import led
from tautrounds.splits import split
from tautrounds.sums import is_sum
from tautrounds.twists import twist
from tautrounds.words import cut_free as long_free, free, gone_back
from tests.helpers import (
    HOLES, NO_NUMBERS, NO_SKINS, RING, TORUS, all_rounds, chance_apart, chance_change, chance_of, chance_round,
    chance_simple, chance_skin, check_error, led_round, own_images,
)
from tests.test_linked import NO_ROUNDS
from tests.test_pieces import points_of


def twist_by_words(skin, loop, times):
    """From the document's words: what is noted once round the disc."""
    word, ahead, beyond = (), {}, {}
    for thing in points_of(best_drawing(skin, [loop])):
        if thing[0] == "gap":
            ahead[thing[1]] = word
        elif thing[0] == "point":
            _, (_, i), end = thing
            if loop[i] == end:
                around, many = loop[i:] + loop[:i], -times
            else:
                around, many = loop[i + 1:] + loop[:i + 1], times
            word += around * many if many > 0 else gone_back(around) * -many
        else:
            beyond[thing[1]] = word
    images = {}
    for k in range(0, 2 * skin.bands, 2):
        images[k] = long_free(ahead[k] + (k,) + gone_back(beyond[k + 1]))
        images[k + 1] = gone_back(images[k])
    return [images[k] for k in range(2 * skin.bands)], long_free(word)


def try_twist(skin, loop, times):
    """The twist, or None if its images are too long."""
    try:
        return twist(skin, loop, times)
    except TooMany:
        return None


class TwistTest(unittest.TestCase):
    def test_by_hand(self):
        self.assertEqual(twist(TORUS, (0,), 1), [(0,), (1,), (1, 2), (3, 0)])
        self.assertEqual(twist(skin=TORUS, loop=(0, 2), times=1), [(0, 0, 2), (3, 1, 1), (3, 1, 2), (3, 0, 2)])
        self.assertEqual(twist(RING, (0,), 9), [(0,), (1,)])

    def test_by_words_and_facts(self):
        chance = chance_of(350)
        for bands in (1, 2, 2, 3, 4, 5, 6):
            for _ in range(12):
                skin = chance_skin(chance, bands)
                loop, times = chance_simple(chance, skin, 6), chance.randint(-9, 9)
                wanted, noted = twist_by_words(skin, loop, times)
                self.assertEqual(noted, ())
                if max(map(len, wanted)) > 200:
                    check_error(self, TooMany, ("most", 200), twist, skin, loop, times)
                    continue
                told = twist(skin, loop, times)
                self.assertEqual(told, wanted)
                self.assertIs(type(told), list)
                self.assertEqual(twist(skin, turned_about(skin, loop), times), told)
                self.assertEqual(twist(skin, loop, 0), own_images(skin))
                more = chance.randint(-2, 2)
                step, both = try_twist(skin, loop, more), None
                if abs(times + more) <= 9:
                    both = try_twist(skin, loop, times + more)
                if step is not None and both is not None:
                    self.assertEqual(behind(skin, told, step), both)

    def test_is_a_change_that_keeps_rims_and_the_round(self):
        chance = chance_of(351)
        for bands in (1, 2, 2, 3, 4, 5, 6):
            for _ in range(12):
                skin = chance_skin(chance, bands)
                a, k = chance_simple(chance, skin, 6), chance.choice([-2, -1, 0, 1, 2])
                images = twist(skin, a, k)
                self.assertIs(is_change(skin, images), True)
                for loop in rims(skin) + [a, turned_about(skin, a)]:
                    self.assertEqual(led_round(skin, images, loop), loop)

    def test_leads_to_itself_what_it_does_not_cross(self):
        chance = chance_of(352)
        told = []
        for bands in (2, 2, 3, 4, 5, 6):
            for _ in range(10):
                skin = chance_skin(chance, bands)
                a, k = chance_simple(chance, skin, 5), chance.choice([-2, -1, 1, 2])
                images = twist(skin, a, k)
                for _ in range(6):
                    b = chance_round(chance, skin, 5)
                    told.append(crossings(skin, a, b) == 0)
                    self.assertEqual(led_round(skin, images, b) == b, told[-1])
        self.assertTrue(60 < told.count(True) < len(told) - 60)

    def test_numbers(self):
        chance = chance_of(353)
        for bands in (2, 2, 3, 4, 5, 6):
            for _ in range(10):
                skin = chance_skin(chance, bands)
                a, b, c = [chance_simple(chance, skin, 4) for _ in range(3)]
                k = chance.choice([-3, -2, -1, 1, 2, 3])
                images = try_twist(skin, a, k)
                if images is None:
                    continue
                led_b = led_round(skin, images, b)
                self.assertEqual(len(pairs_of(skin, b, led_b)), abs(k) * crossings(skin, a, b) ** 2)
                wanted = abs(k) * crossings(skin, a, b) * crossings(skin, a, c)
                self.assertLessEqual(abs(len(pairs_of(skin, led_b, c)) - wanted), crossings(skin, b, c))

    def test_leads_brackets_and_splits(self):
        chance = chance_of(354)
        tried = 0
        for bands in (2, 2, 3, 4, 6):
            for _ in range(8):
                skin = chance_skin(chance, bands)
                images = twist(skin, chance_simple(chance, skin, 3), chance.choice([-1, 1]))
                x, y = {chance_round(chance, skin, 5): 1}, {chance_round(chance, skin, 5): 2}
                led_x, led_y = led_sum(skin, images, x), led_sum(skin, images, y)
                if is_sum(skin, led_x) and is_sum(skin, led_y):
                    tried += 1
                    self.assertEqual(bracket(skin, led_x, led_y), led_sum(skin, images, bracket(skin, x, y)))
                    wanted = {
                        (led_round(skin, images, u), led_round(skin, images, v)): number
                        for (u, v), number in split(skin, x).items()
                    }
                    self.assertEqual(split(skin, led_x), wanted)
        self.assertGreater(tried, 20)

    def test_along_a_led_round(self):
        chance = chance_of(355)
        tried = 0
        for bands in (2, 2, 3, 4, 6):
            for _ in range(12):
                skin = chance_skin(chance, bands)
                f = chance_change(chance, skin, 1)
                a, k = chance_simple(chance, skin, 3), chance.choice([-2, -1, 1, 2])
                led_a = led_round(skin, f, a)
                if len(led_a) > 40 or try_twist(skin, led_a, k) is None:
                    continue
                self.assertEqual(own_crossings(skin, led_a), 0)
                tried += 1
                steps = [undone_change(skin, f), twist(skin, a, k), f]
                for loop in all_rounds(skin, 1) + [chance_round(chance, skin, 4) for _ in range(3)]:
                    wanted = loop
                    for step in steps:
                        wanted = long_led(step, wanted)
                    self.assertEqual(led_round(skin, twist(skin, led_a, k), loop), wanted)
        self.assertGreater(tried, 30)

    def test_two_that_do_not_cross(self):
        chance = chance_of(356)
        tried = 0
        for bands in (2, 3, 4, 5, 6):
            for _ in range(12):
                skin = chance_skin(chance, bands)
                rounds = chance_apart(chance, skin, 2, 4)
                if len(rounds) == 2:
                    one, other = [twist(skin, loop, chance.choice([-1, 1])) for loop in rounds]
                    tried += not along(skin, rounds[0], rounds[1])
                    for _ in range(4):
                        loop = chance_round(chance, skin, 4)
                        there = long_led(other, long_led(one, loop))
                        self.assertEqual(there, long_led(one, long_led(other, loop)))
        self.assertGreater(tried, 10)

    def test_two_that_cross_once(self):
        chance = chance_of(357)
        tried = 0
        for bands in (2, 2, 3, 4, 6):
            for _ in range(60):
                skin = chance_skin(chance, bands)
                a, b = chance_simple(chance, skin, 3), chance_simple(chance, skin, 3)
                if crossings(skin, a, b) == 1 and tried < 40:
                    tried += 1
                    one, other = twist(skin, a, 1), twist(skin, b, 1)
                    for loop in all_rounds(skin, 1):
                        aba = long_led(one, long_led(other, long_led(one, loop)))
                        bab = long_led(other, long_led(one, long_led(other, loop)))
                        self.assertEqual(aba, bab)
        self.assertGreater(tried, 20)

    def test_one_handle(self):
        both = behind(TORUS, twist(TORUS, (0,), 1), twist(TORUS, (2,), 1))
        three = behind(TORUS, behind(TORUS, both, both), both)
        six = behind(TORUS, three, three)
        for loop in all_rounds(TORUS, 5):
            turned = led_round(TORUS, [(1,), (0,), (3,), (2,)], loop)
            self.assertEqual(led_round(TORUS, three, loop), turned)
            self.assertEqual(led_round(TORUS, six, loop), loop)

    def test_one_handle_leads_each_simple_round_to_each_other(self):
        around = rims(TORUS) + [turned_about(TORUS, rim) for rim in rims(TORUS)]
        simple = [loop for loop in simple_rounds(TORUS, 5) if loop not in around]
        steps = [twist(TORUS, loop, times) for loop in ((0,), (2,)) for times in (1, -1)]
        reached = {(0,)}
        while True:
            more = {led_round(TORUS, step, loop) for step in steps for loop in reached}
            more = {loop for loop in more if len(loop) <= 12} | reached
            if more == reached:
                break
            reached = more
        for loop in simple:
            self.assertIn(loop, reached)
        self.assertTrue(all(own_crossings(TORUS, loop) == 0 for loop in reached))

    def test_lantern(self):
        skin = Skin((0, 1, 2, 3, 4, 5))
        steps = [twist(skin, loop, 1) for loop in ((0, 2), (2, 4), (0, 4))]
        for loop in all_rounds(skin, 4):
            wanted = loop
            for step in steps:
                wanted = long_led(step, wanted)
            self.assertEqual(wanted, loop)
        steps.reverse()
        moved = [loop for loop in all_rounds(skin, 3) if long_led(steps[2], long_led(steps[1], long_led(
            steps[0], loop))) != loop]
        self.assertNotEqual(moved, [])

    def test_times_and_lengths(self):
        self.assertEqual(twist(TORUS, (0,), 9)[2], (1,) * 9 + (2,))
        self.assertEqual(twist(TORUS, (0,), -9)[2], (0,) * 9 + (2,))
        check_error(self, TooMany, ("most", 200), twist, TORUS, (0,) * 39 + (2,), 9)

    def test_images_of_199_letters_and_of_201(self):
        skin, loop = Skin((0, 3, 1, 2)), (1, 1, 2, 1, 1, 2, 1, 2, 1, 1, 2, 1, 2, 1, 1, 2, 1, 2)
        self.assertEqual(max(map(len, twist(skin, loop, 1))), 199)
        skin, loop = Skin((0, 2, 5, 4, 7, 3, 6, 1)), (1, 2, 4, 6, 4)
        self.assertEqual(max(map(len, twist_by_words(skin, loop, 8)[0])), 201)
        check_error(self, TooMany, ("most", 200), twist, skin, loop, 8)
        self.assertEqual(max(map(len, twist(skin, loop, 7))), 176)

    def test_lengths_of_rounds(self):
        for many in range(1, 40):
            loop = (0,) * many + (2,)
            wanted = twist_by_words(TORUS, loop, 1)[0]
            if max(map(len, wanted)) <= 200:
                self.assertEqual(twist(TORUS, loop, 1), wanted)
            else:
                check_error(self, TooMany, ("most", 200), twist, TORUS, loop, 1)

    def test_errors_in_sequence(self):
        for skin in NO_SKINS:
            check_error(self, BadSkin, ("part", None), twist, skin, None, None)
        for loop in NO_ROUNDS:
            check_error(self, BadRound, None, twist, TORUS, loop, None)
        for loop in ((0, 0), (0, 0, 2, 2), (0, 2, 0, 2)):
            check_error(self, NotSimple, None, twist, TORUS, loop, None)
        check_error(self, NotSimple, None, twist, HOLES, (0, 3), 10)
        for times in NO_NUMBERS + [-10, 10]:
            check_error(self, BadNumber, ("part", "times"), twist, TORUS, (0,), times)
            check_error(self, BadNumber, ("part", "times"), twist, TORUS, (0,) * 39 + (2,), times)


def long_led(images, word):
    """The round, or word taken round, to which one is led, of any lengths."""
    left = list(long_free(tuple(image for letter in word for image in images[letter])))
    while len(left) > 1 and left[0] == left[-1] ^ 1:
        left = left[1:-1]
    return min([tuple(left[at:] + left[:at]) for at in range(len(left))], default=())


class HelpersTest(unittest.TestCase):
    def test_led(self):
        images = twist(TORUS, (0, 2), 1)
        for loop in all_rounds(TORUS, 3):
            self.assertEqual(long_led(images, loop), led_round(TORUS, images, loop))
            self.assertEqual(long_free(loop), free(TORUS, loop))
            self.assertEqual(led(TORUS, own_images(TORUS), loop), loop)


if __name__ == "__main__":
    unittest.main()
