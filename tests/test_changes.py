"""Promises [2] (e), [50]: images of a skin in itself, changes, and what shows that images are none."""

import unittest

from tautrounds.bases import undone_basis
from tautrounds.changes import behind, is_change, is_shown_against, led_sum, shown_against, undone_change
from tautrounds.errors import BadImages, BadSkin, BadSum, TooMany
from tautrounds.linked import crossings, own_crossings, own_number, pairs_of
from tautrounds.rounds import is_round, round_of, turned_about
from tautrounds.skins import Skin, rims
from tautrounds.slides import led
from tautrounds.twists import twist
from tautrounds.words import free, undone
from tests.helpers import (
    HOLES, NO_SKINS, ODD_VALUES, RING, TORUS, Counterfeit, chance_change, chance_of, chance_round, chance_simple,
    chance_skin, chance_sum, chance_word, check_ascending, check_error, forward_rims, images_from, led_round,
    own_images,
)
from tests.test_sums import NO_SUMS

FOUR_RIMS = Skin((0, 1, 2, 3, 4, 5))
A_CHANGE = [(0, 2), (3, 1), (2,), (3,)]
NO_IMAGES = ODD_VALUES + [
    [], [(0,)], [(0,), (1,), (2,)], [(0,), (0,), (2,), (3,)], [[0], [1], [2], [3]], [(0,), (1,), (2,), (3,), (4,)],
    [(0,), (True,), (2,), (3,)], [(False,), (1,), (2,), (3,)], [(4,), (5,), (2,), (3,)], [(0,), (1,), (2,), None],
    [(0, 1), (), (2,), (3,)], [(0, 2), (1, 3), (2,), (3,)], {0: (0,), 1: (1,), 2: (2,), 3: (3,)}, "0123",
    [(0.0,), (1.0,), (2,), (3,)], [Counterfeit()] * 4, Counterfeit(), iter([(0,), (1,), (2,), (3,)]),
    [(-2,), (-1,), (2,), (3,)], images_from([(0,), (2,) * 200])[:3] + [(3,) * 201],
    [(0,), (1,), (2,) * 201, (3,) * 201],
]


def check_image_errors(case, act, *rest):
    """That act, of a skin and images, tells BadSkin and BadImages ahead of all that comes behind."""
    for skin in NO_SKINS:
        check_error(case, BadSkin, ("part", None), act, skin, None, *rest)
    for thing in NO_IMAGES:
        check_error(case, BadImages, None, act, TORUS, thing, *rest)


def chance_automorphism(chance, skin, many):
    """Images that can be undone; most are no change."""
    images = own_images(skin)
    for _ in range(many if skin.bands > 1 else 0):
        one, other = chance.sample(range(skin.bands), 2)
        letter = 2 * other + chance.randrange(2)
        words = [(2 * band,) for band in range(skin.bands)]
        words[one] = (2 * one, letter) if chance.randrange(2) else (letter, 2 * one)
        images = behind(skin, images, images_from(words))
    return images


class BehindTest(unittest.TestCase):
    def test_one_and_then_other(self):
        self.assertEqual(behind(TORUS, A_CHANGE, A_CHANGE), [(0, 2, 2), (3, 3, 1), (2,), (3,)])
        swapped = ((2,), (3,), (0,), (1,))
        self.assertEqual(behind(skin=TORUS, one=A_CHANGE, other=swapped), [(2, 0), (1, 3), (0,), (1,)])
        self.assertEqual(behind(TORUS, swapped, A_CHANGE), [(2,), (3,), (0, 2), (3, 1)])

    def test_by_chance(self):
        chance = chance_of(340)
        for _ in range(60):
            skin = chance_skin(chance, chance.randint(1, 6))
            one, other = [
                images_from([chance_word(chance, skin, chance.randint(0, 8)) for _ in range(skin.bands)])
                for _ in range(2)
            ]
            told = behind(skin, one, other)
            self.assertEqual(told, [led(skin, other, led(skin, [free(skin, word) for word in one], (letter,)))
                                    for letter in range(2 * skin.bands)])
            word = chance_word(chance, skin, 9)
            self.assertEqual(led(skin, told, word), led(skin, other, led(skin, one, word)))

    def test_images_of_200_letters_and_beyond(self):
        one = images_from([(0,) * 20, (2,)])
        other = images_from([(0,) * 10, (2,)])
        self.assertEqual(behind(TORUS, one, other)[0], (0,) * 200)
        self.assertEqual(behind(TORUS, images_from([(0,) * 200, (2,)]), own_images(TORUS))[1], (1,) * 200)
        longer = images_from([(0,) * 20 + (2,), (2,)])
        check_error(self, TooMany, ("most", 200), behind, TORUS, longer, other)
        # What is led to may be longer ahead of its being made free.
        short = images_from([(0, 1) * 50 + (0,), (2,)])
        self.assertEqual(behind(TORUS, short, images_from([(0,) * 200, (2,)]))[0], (0,) * 200)

    def test_errors_in_sequence(self):
        check_image_errors(self, behind, None)
        for thing in NO_IMAGES:
            check_error(self, BadImages, None, behind, TORUS, A_CHANGE, thing)

    def test_what_is_handed_in_stays(self):
        one = list(A_CHANGE)
        behind(TORUS, one, one).append(None)
        self.assertEqual(one, A_CHANGE)
        self.assertEqual(len(behind(TORUS, one, one)), 4)


class LedSumTest(unittest.TestCase):
    def test_by_hand(self):
        self.assertEqual(led_sum(TORUS, A_CHANGE, {(0,): 2, (2,): 1}), {(0, 2): 2, (2,): 1})
        merged = images_from([(0,), (0,)])
        told = led_sum(skin=TORUS, images=merged, some={(0,): 2, (2,): -2, (0, 3): 5, (2, 2): 1})
        self.assertEqual(told, {(0, 0): 1})
        self.assertEqual(led_sum(TORUS, merged, {}), {})

    def test_by_chance(self):
        chance = chance_of(341)
        for _ in range(60):
            skin = chance_skin(chance, chance.randint(1, 6))
            images = images_from([chance_word(chance, skin, chance.randint(0, 3)) for _ in range(skin.bands)])
            some = chance_sum(chance, skin, 6, 4)
            wanted = {}
            for loop, number in some.items():
                other = led_round(skin, images, loop)
                wanted[other] = wanted.get(other, 0) + number
            told = led_sum(skin, images, some)
            check_ascending(self, told)
            self.assertEqual(told, {loop: number for loop, number in wanted.items() if loop and number})

    def test_long_words(self):
        images = images_from([(0,) * 200, (2,)])
        self.assertEqual(led_sum(TORUS, images, {(0,) * 40: 1}), {(0,) * 8000: 1})

    def test_errors_in_sequence(self):
        check_image_errors(self, led_sum, None)
        for thing in NO_SUMS:
            check_error(self, BadImages, None, led_sum, TORUS, None, thing)
            check_error(self, BadSum, None, led_sum, TORUS, A_CHANGE, thing)


class IsChangeTest(unittest.TestCase):
    def test_by_hand(self):
        for images in (A_CHANGE, tuple(A_CHANGE), own_images(TORUS), [(1,), (0,), (2,), (3,)]):
            self.assertIs(is_change(TORUS, images), True)
            self.assertIs(is_change(skin=TORUS, images=images), True)
        self.assertIs(is_change(HOLES, A_CHANGE), False)
        self.assertIs(is_change(HOLES, [(2,), (3,), (0,), (1,)]), True)
        self.assertIs(is_change(HOLES, [(3,), (2,), (1,), (0,)]), True)
        self.assertIs(is_change(HOLES, [(2,), (3,), (1,), (0,)]), False)
        self.assertIs(is_change(RING, [(1,), (0,)]), True)
        self.assertIs(is_change(RING, [(0, 0), (1, 1)]), False)
        self.assertIs(is_change(RING, [(), ()]), False)
        self.assertIs(is_change(RING, [(0, 1, 0), (1, 0, 1)]), True)
        self.assertIs(is_change(TORUS, images_from([(0, 2, 0), (2,)])), False)
        self.assertIs(is_change(TORUS, images_from([(0,), (0,)])), False)

    def test_any_value(self):
        for thing in NO_IMAGES:
            self.assertIs(is_change(TORUS, thing), False)
        for skin in NO_SKINS:
            check_error(self, BadSkin, ("part", None), is_change, skin, A_CHANGE)

    def test_200_letters_and_beyond(self):
        self.assertIs(is_change(TORUS, images_from([(2,) * 199 + (0,), (2,)])), True)
        self.assertIs(is_change(TORUS, images_from([(2,) * 200 + (0,), (2,)])), False)

    def test_all_automorphisms_of_one_handle(self):
        chance = chance_of(342)
        for skin in (TORUS, Skin((0, 3, 1, 2))):
            for _ in range(20):
                self.assertIs(is_change(skin, chance_automorphism(chance, skin, chance.randint(0, 6))), True)


class UndoneTest(unittest.TestCase):
    def check(self, skin, images):
        told = undone_change(skin, images)
        self.assertEqual(behind(skin, images, told), own_images(skin))
        self.assertEqual(behind(skin, told, images), own_images(skin))
        self.assertEqual([free(skin, word) for word in told], told)
        self.assertIs(type(told), list)
        self.assertIs(is_change(skin, told), True)
        return told

    def test_by_hand(self):
        self.assertEqual(self.check(TORUS, A_CHANGE), [(0, 3), (2, 1), (2,), (3,)])
        self.assertEqual(undone_change(skin=RING, images=((1,), (0,))), [(1,), (0,)])
        self.assertEqual(self.check(RING, [(0, 1, 0), (1, 0, 1)]), [(0,), (1,)])

    def test_by_chance(self):
        chance = chance_of(343)
        for bands in (1, 2, 2, 3, 4, 5, 6):
            for _ in range(15):
                skin = chance_skin(chance, bands)
                self.check(skin, chance_change(chance, skin, 2))
                word = chance_word(chance, skin, 12)
                around = [free(skin, undone(skin, word) + (k,) + word) for k in range(2 * bands)]
                self.check(skin, around)

    def test_by_steps_back(self):
        chance = chance_of(344)
        for bands in (2, 3, 4, 6):
            for _ in range(40):
                skin = chance_skin(chance, bands)
                images, back = own_images(skin), own_images(skin)
                for _ in range(5):
                    loop, times = chance_simple(chance, skin, 4), chance.choice([-1, 1])
                    try:
                        images = behind(skin, images, twist(skin, loop, times))
                        back = [led(skin, back, word) for word in twist(skin, loop, -times)]
                    except TooMany:
                        break
                else:
                    if max(map(len, back)) > 200:
                        check_error(self, TooMany, ("most", 200), undone_change, skin, images)
                    else:
                        self.assertEqual(undone_change(skin, images), back)

    def test_images_of_200_letters(self):
        self.check(TORUS, images_from([(2,) * 199 + (0,), (2,)]))
        chance = chance_of(345)
        for bands in (2, 6):
            skin = chance_skin(chance, bands)
            word = (0, 2) * 49
            self.check(skin, [undone(skin, word) + (k,) + word for k in range(2 * bands)])

    def test_long_undone(self):
        there = images_from([(0,) + (2,) * 14, (2,)])
        for many in (3, 7, 8, 60):
            images = [free(TORUS, (1,) * many + word + (0,) * many) for word in there]
            self.assertIs(is_change(TORUS, images), True)
            if many <= 7:
                self.assertEqual(len(self.check(TORUS, images)[2]), 30 * many - 27)
            else:
                check_error(self, TooMany, ("most", 200), undone_change, TORUS, images)

    def test_errors(self):
        check_image_errors(self, undone_change)
        check_error(self, BadImages, None, undone_change, HOLES, A_CHANGE)
        check_error(self, BadImages, None, undone_change, TORUS, images_from([(0,), (0,)]))


class BasesTest(unittest.TestCase):
    """Also of images that lead no rims to rims: what undoes them is found in one way for all."""

    def check(self, skin, images):
        told = images_from(undone_basis(images[::2], 200))
        self.assertEqual(behind(skin, images, told), own_images(skin))
        self.assertEqual(behind(skin, told, images), own_images(skin))

    def test_by_chance(self):
        chance = chance_of(350)
        for bands in (2, 3, 3, 4, 5, 6):
            for _ in range(20):
                skin = chance_skin(chance, bands)
                self.check(skin, chance_automorphism(chance, skin, chance.randint(0, 5)))

    def test_where_no_two_words_make_a_shorter_one(self):
        self.check(FOUR_RIMS, images_from([(5, 0), (1, 2), (5, 0, 4, 3, 4)]))
        skin = Skin((0, 1, 2, 3, 4, 5, 6, 7))
        self.check(skin, images_from([(6, 5, 0), (4, 2, 4, 1), (4, 1), (6, 1, 6, 5, 0)]))


class ShownTest(unittest.TestCase):
    def check(self, skin, images):
        told = shown_against(skin, images)
        self.assertIs(told is None, is_change(skin, images))
        if told is not None:
            self.assertIs(type(told), tuple)
            self.assertIs(is_shown_against(skin, images, told), True)
            self.assertEqual(shown_against(skin, tuple(images)), told)
        if told is not None and told[0] == "rounds":
            for loop in told[1:]:
                self.assertTrue(is_round(skin, loop) and len(loop) <= 12)
            one, other = told[1:]
            led_one, led_other = led_round(skin, images, one), led_round(skin, images, other)
            if one == other:
                self.assertNotEqual(own_crossings(skin, one), own_number(skin, led_one))
            else:
                self.assertNotEqual(crossings(skin, one, other), len(pairs_of(skin, led_one, led_other)))
        return told

    def test_exactly_one(self):
        chance = chance_of(346)
        told = []
        for bands in (1, 2, 2, 3, 3, 4, 5, 6):
            for _ in range(12):
                skin = chance_skin(chance, bands)
                images = chance_automorphism(chance, skin, chance.randint(1, 4))
                told.append(self.check(skin, images))
                words = [chance_word(chance, skin, chance.randint(0, 4)) for _ in range(bands)]
                told.append(self.check(skin, images_from(words)))
                change = chance_change(chance, skin, 2)
                if max(map(len, change)) <= 40:
                    told.append(self.check(skin, change))
        kinds = [None if one is None else one[0] for one in told]
        for kind in (None, "letter", "rounds"):
            self.assertGreater(kinds.count(kind), 15)

    def test_nothing_is_shown_against_changes(self):
        chance = chance_of(347)
        for bands in (1, 2, 2, 3, 4, 6):
            for _ in range(8):
                skin = chance_skin(chance, bands)
                images = chance_change(chance, skin, 1)
                if max(map(len, images)) > 40:
                    continue
                loops = rims(skin) + [chance_round(chance, skin, 5) for _ in range(3)]
                for one in loops:
                    for other in loops:
                        self.assertIs(is_shown_against(skin, images, ("rounds", one, other)), False)
                for letter in range(2 * bands):
                    self.assertIs(is_shown_against(skin, images, ("letter", letter)), False)
                self.assertIs(is_shown_against(skin, images, None), False)

    def test_changes_keep_all_numbers(self):
        chance = chance_of(348)
        for bands in (1, 2, 2, 3, 4, 5, 6):
            for _ in range(10):
                skin = chance_skin(chance, bands)
                images = chance_change(chance, skin, 1)
                if chance.randrange(2) and bands == 2 and len(rims(skin)) == 1:
                    images = behind(skin, images, [(1,), (0,), (2,), (3,)])
                one, other = chance_round(chance, skin, 5), chance_round(chance, skin, 5)
                led_one, led_other = led_round(skin, images, one), led_round(skin, images, other)
                self.assertEqual(own_number(skin, led_one), own_crossings(skin, one))
                self.assertEqual(len(pairs_of(skin, led_one, led_other)), crossings(skin, one, other))

    def test_by_hand(self):
        self.assertEqual(shown_against(RING, [(0, 0), (1, 1)]), ("letter", 0))
        self.assertEqual(shown_against(skin=RING, images=[(), ()]), ("letter", 0))
        self.assertIs(shown_against(TORUS, A_CHANGE), None)
        told = self.check(HOLES, A_CHANGE)
        self.assertEqual(told[0], "rounds")
        turned = [(1,), (0,), (2,), (3,)]
        self.assertIs(is_shown_against(HOLES, turned, ("rounds", (0, 2), (0, 2))), True)
        self.assertIs(is_shown_against(skin=HOLES, images=turned, thing=("rounds", (0, 2), (1, 2))), False)
        self.assertIs(is_shown_against(HOLES, turned, ("rounds", (0,), (2,))), False)
        self.assertIs(is_shown_against(HOLES, turned, ("letter", 0)), False)
        squares = [(0, 0), (1, 1), (2,), (3,)]
        for letter in range(4):
            self.assertIs(is_shown_against(HOLES, squares, ("letter", letter)), letter < 2)

    def test_rounds_led_to_nothing_show_nothing(self):
        lost = images_from([(), (2,)])
        self.assertIs(is_shown_against(TORUS, lost, ("rounds", (0,), (2,))), False)
        self.assertIs(is_shown_against(TORUS, lost, ("rounds", (2,), (0,))), False)
        self.assertIs(is_shown_against(TORUS, lost, ("rounds", (0, 2), (2,))), True)
        self.assertIs(is_shown_against(TORUS, lost, ("letter", 1)), True)

    def test_rounds_of_12_letters_and_beyond(self):
        doubled = images_from([(0, 0)])
        for many in (1, 2, 12):
            self.assertIs(is_shown_against(RING, doubled, ("rounds", (0,) * many, (0,) * many)), True)
        self.assertIs(is_shown_against(RING, doubled, ("rounds", (0,) * 13, (0,) * 13)), False)
        self.assertIs(is_shown_against(RING, doubled, ("rounds", (0,), (0, 0))), False)

    def test_no_such_tuples(self):
        turned = [(1,), (0,), (2,), (3,)]
        good = ("rounds", (0, 2), (0, 2))
        self.assertIs(is_shown_against(HOLES, turned, good), True)
        bad = ODD_VALUES + NO_SKINS + [
            list(good), ("rounds", [0, 2], [0, 2]), ("rounds", (0, 2)), ("rounds", (0, 2), (0, 2), None), (),
            ("round", (0, 2), (0, 2)), ("rounds", (2, 0), (2, 0)), ("rounds", (0, 2), None), ("rounds", None, (0, 2)),
            (Counterfeit(), (0, 2), (0, 2)), ("rounds", Counterfeit(), Counterfeit()), ("rounds", (), ()),
            ("rounds", (False, 2), (0, 2)), ("letter",), ("letter", True), ("letter", -1), ("letter", 4),
            ("letters", 0),
            ("letter", 0, 0), ("letter", None), ("letter", (0,)), ("letter", Counterfeit()), (Counterfeit(), 0),
        ]
        for thing in bad:
            self.assertIs(is_shown_against(HOLES, turned, thing), False, thing)
        lost = [(), (), (2,), (3,)]
        self.assertIs(is_shown_against(HOLES, lost, ("letter", 0)), True)
        for thing in bad:
            self.assertIs(is_shown_against(HOLES, lost, thing), False, thing)
        self.assertIs(is_shown_against(HOLES, lost, ["letter", 0]), False)
        self.assertIs(is_shown_against(HOLES, lost, ("letter", 0.0)), False)

    def test_images_of_40_letters_and_beyond(self):
        fit = images_from([(2,) * 39 + (0,), (2,)])
        self.assertIs(shown_against(TORUS, fit), None)
        long = images_from([(2,) * 40 + (0,), (2,)])
        check_error(self, TooMany, ("most", 40), shown_against, TORUS, long)
        check_error(self, TooMany, ("most", 40), is_shown_against, TORUS, long, None)
        # As handed in: pairs that could be taken out count, too.
        not_free = images_from([(0, 1) * 20 + (0,), (2,)])
        check_error(self, TooMany, ("most", 40), shown_against, TORUS, not_free)
        self.assertEqual(shown_against(HOLES, images_from([(2,) * 39 + (0,), (2,)]))[0], "rounds")
        six = Skin((0, 2, 4, 6, 8, 10, 1, 3, 5, 7, 9, 11))
        words = [(0,)] + [(2 * band,) + (2 * band - 2,) * 39 for band in range(1, 6)]
        self.assertEqual(self.check(six, images_from(words))[0], "rounds")

    def test_errors_in_sequence(self):
        check_image_errors(self, shown_against)
        check_image_errors(self, is_shown_against, None)


class RimsTest(unittest.TestCase):
    def test_a_change_leads_all_rims_one_way(self):
        chance = chance_of(349)
        for bands in (2, 3, 4, 5, 6):
            for _ in range(6):
                skin = chance_skin(chance, bands)
                images = chance_change(chance, skin, 2)
                self.assertTrue(forward_rims(skin, images))
                turned = sorted(turned_about(skin, rim) for rim in rims(skin))
                back = [round_of(skin, led(skin, images, rim)) for rim in turned]
                self.assertEqual(sorted(back), turned)


if __name__ == "__main__":
    unittest.main()
