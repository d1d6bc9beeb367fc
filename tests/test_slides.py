"""Promises [2] (e), [10], [13]: slides, images, plain skins, and the ways that lead to them."""

import unittest

from tautrounds.errors import BadImages, BadNumber, BadSkin, BadWord, NotNow, TooMany
from tautrounds.linked import crossings, own_crossings
from tautrounds.rounds import round_of
from tautrounds.skins import Skin, genus, renamed, rims
from tautrounds.slides import is_plain_way, led, plain_skin, plain_way, slid, way_images
from tautrounds.words import free, undone
from tests.helpers import (
    HOLES, NO_NUMBERS, NO_SKINS, ODD_VALUES, RING, TORUS, Counterfeit, all_rows, chance_of, chance_renaming,
    chance_round, chance_skin, chance_word, check_error,
)
from tests.test_skins import paired_rows


def can_slide(skin, end, side):
    at = skin.row.index(end)
    return skin.row[(at + side) % len(skin.row)] != end ^ 1


def slides_of(skin):
    return [(end, side) for end in range(2 * skin.bands) for side in (1, -1) if can_slide(skin, end, side)]


class SlidTest(unittest.TestCase):
    def test_by_hand(self):
        self.assertEqual(slid(HOLES, 1, 1), (Skin((0, 2, 3, 1)), [(0, 3), (2, 1), (2,), (3,)]))
        self.assertEqual(slid(TORUS, 0, 1), (TORUS, [(2, 0), (1, 3), (2,), (3,)]))
        self.assertEqual(led(HOLES, slid(HOLES, 1, 1)[1], (0, 2)), (0,))
        self.assertEqual(led(HOLES, slid(HOLES, 1, 1)[1], (1,)), (2, 1))
        told = slid(skin=HOLES, end=2, side=-1)
        self.assertEqual(told, (Skin((2, 0, 1, 3)), [(0,), (1,), (1, 2), (3, 0)]))
        self.assertEqual((type(told), type(told[1])), (tuple, list))

    def test_errors_in_sequence(self):
        for skin in NO_SKINS:
            check_error(self, BadSkin, ("part", None), slid, skin, None, None)
        for end in NO_NUMBERS + [-1, 4]:
            check_error(self, BadNumber, ("part", "end"), slid, HOLES, end, None)
        for side in NO_NUMBERS + [0, 2, -2]:
            check_error(self, BadNumber, ("part", "side"), slid, HOLES, 0, side)
        check_error(self, NotNow, None, slid, HOLES, 0, 1)
        check_error(self, NotNow, None, slid, HOLES, 1, -1)
        for end in (0, 1):
            for side in (1, -1):
                check_error(self, NotNow, None, slid, RING, end, side)

    def test_where_the_end_goes(self):
        chance = chance_of(40)
        for bands in (2, 3, 4, 5, 6):
            for _ in range(20):
                skin = chance_skin(chance, bands)
                for end, side in slides_of(skin):
                    other = skin.row[(skin.row.index(end) + side) % len(skin.row)]
                    row = list(skin.row)
                    row.remove(end)
                    row.insert(row.index(other ^ 1) + (1 if side == 1 else 0), end)
                    self.assertEqual(slid(skin, end, side)[0], Skin(row))

    def test_heart(self):
        chance = chance_of(41)
        for bands in (2, 3, 4, 5, 6):
            for _ in range(12):
                skin = chance_skin(chance, bands)
                loops = [chance_round(chance, skin, 7) for _ in range(2)]
                for end, side in slides_of(skin):
                    self.check_slide(skin, end, side, loops)

    def check_slide(self, skin, end, side, loops):
        other, images = slid(skin, end, side)
        self.assertEqual((genus(other), len(rims(other))), (genus(skin), len(rims(skin))))
        led_rims = [round_of(other, led(skin, images, rim)) for rim in rims(skin)]
        self.assertEqual(sorted(led_rims), rims(other))
        back, back_images = slid(other, end, -side)
        self.assertEqual(back, skin)
        for letter in range(2 * skin.bands):
            self.assertEqual(led(other, back_images, led(skin, images, (letter,))), (letter,))
        one, two = loops
        led_one, led_two = [round_of(other, led(skin, images, loop)) for loop in loops]
        self.assertEqual(own_crossings(other, led_one), own_crossings(skin, one))
        self.assertEqual(crossings(other, led_one, led_two), crossings(skin, one, two))


class LedTest(unittest.TestCase):
    def test_free_of_all_images(self):
        chance = chance_of(42)
        for _ in range(200):
            skin = chance_skin(chance, chance.randint(1, 6))
            images = []
            for _ in range(skin.bands):
                word = chance_word(chance, skin, chance.randint(0, 12))
                images += [word, undone(skin, word)]
            word = chance_word(chance, skin, chance.randint(0, 16))
            wanted = free(skin, tuple(letter for one in word for letter in images[one]))
            self.assertEqual(led(skin, images, word), wanted)
            self.assertEqual(led(skin=skin, images=tuple(images), word=word), wanted)

    def test_long_images(self):
        images = [(0,) * 400, (1,) * 400]
        self.assertEqual(led(RING, images, (0,) * 200), (0,) * 80000)
        self.assertEqual(led(RING, [(0, 1) * 200, (0, 1) * 200], (0,)), ())
        check_error(self, BadImages, None, led, RING, [(0,) * 401, (1,) * 401], (0,))

    def test_errors_in_sequence(self):
        for skin in NO_SKINS:
            check_error(self, BadSkin, ("part", None), led, skin, None, None)
        for word in ODD_VALUES + [[0], (2,), (True,), (0,) * 201]:
            check_error(self, BadWord, None, led, RING, None, word)
        bad = ODD_VALUES + [
            [], [(0,)], [(0,), (0,)], [[0], [1]], [(0,), (1,), (2,)], [(0,), (True,)], [(2,), (3,)], [(0, 1), ()],
            [(0,), None], [(), (0,)], [(0, 0), (1,)], {0: (0,), 1: (1,)}, [(-2,), (-1,)],
        ]
        for images in bad:
            check_error(self, BadImages, None, led, RING, images, (0,))
            check_error(self, BadImages, None, led, RING, images, ())

    def test_what_is_handed_in_stays(self):
        images = [(0, 2), (3, 1), (2,), (3,)]
        led(TORUS, images, (0, 3))
        self.assertEqual(images, [(0, 2), (3, 1), (2,), (3,)])


class PlainSkinTest(unittest.TestCase):
    def test_rows(self):
        self.assertEqual(plain_skin(0, 2), RING)
        self.assertEqual(plain_skin(1, 1), TORUS)
        self.assertEqual(plain_skin(0, 3), HOLES)
        self.assertEqual(plain_skin(genus=1, rims=3).row, (0, 2, 1, 3, 4, 5, 6, 7))
        self.assertEqual(plain_skin(3, 1).row, (0, 2, 1, 3, 4, 6, 5, 7, 8, 10, 9, 11))

    def test_all(self):
        for handles in range(4):
            for many in range(1, 8):
                if handles == 0 and many == 1:
                    check_error(self, BadNumber, ("part", "rims"), plain_skin, handles, many)
                elif 2 * handles + many - 1 > 6:
                    check_error(self, TooMany, ("most", 6), plain_skin, handles, many)
                else:
                    skin = plain_skin(handles, many)
                    self.assertEqual((genus(skin), len(rims(skin))), (handles, many))

    def test_errors_in_sequence(self):
        for number in NO_NUMBERS + [-1, 4]:
            check_error(self, BadNumber, ("part", "genus"), plain_skin, number, None)
        for number in NO_NUMBERS + [-1, 0, 8]:
            check_error(self, BadNumber, ("part", "rims"), plain_skin, 3, number)
        check_error(self, BadNumber, ("part", "rims"), plain_skin, 0, True)


class PlainWayTest(unittest.TestCase):
    def check_way(self, skin):
        way = plain_way(skin)
        self.assertIs(type(way), list)
        self.assertLessEqual(len(way), 2 * skin.bands ** 2 + 1)
        self.assertIs(is_plain_way(skin, way), True)
        self.assertEqual(plain_way(skin), way)
        images = way_images(skin, way)
        now, wanted = skin, [(letter,) for letter in range(2 * skin.bands)]
        for step in way:
            if step[0] == "slide":
                old, (now, step_images) = now, slid(now, step[1], step[2])
            else:
                old, now, step_images = now, renamed(now, step[1]), [(letter,) for letter in step[1]]
            wanted = [led(old, step_images, word) for word in wanted]
        self.assertEqual(now, plain_skin(genus(skin), len(rims(skin))))
        self.assertEqual(images, wanted)
        self.assertEqual(sorted(round_of(now, led(skin, images, rim)) for rim in rims(skin)), rims(now))

    def test_all_skins(self):
        for bands in (1, 2, 3):
            for row in all_rows(bands):
                self.check_way(Skin(row))
        for row in paired_rows(8):
            self.check_way(Skin(row))
        chance = chance_of(43)
        for bands in (5, 6):
            for _ in range(150):
                self.check_way(chance_skin(chance, bands))

    def test_bounds_for_all_sequences_of_six_bands(self):
        for row in paired_rows(12):
            skin = Skin(row)
            way = plain_way(skin)
            self.assertLessEqual(len(way), 73)
            self.assertLessEqual(max(len(word) for word in way_images(skin, way)), 400)

    def test_led_to_one_another_exactly_if_genus_and_rims_agree(self):
        kinds = {}
        for row in all_rows(3):
            skin = Skin(row)
            now = skin
            for step in plain_way(skin):
                now = slid(now, step[1], step[2])[0] if step[0] == "slide" else renamed(now, step[1])
            kinds.setdefault((genus(skin), len(rims(skin))), []).append(now)
        self.assertEqual(len(kinds), 2)
        for ends in kinds.values():
            self.assertTrue(all(end == ends[0] for end in ends))

    def test_crossings_stay(self):
        chance = chance_of(44)
        for bands in (2, 3, 4, 5, 6):
            for _ in range(6):
                skin = chance_skin(chance, bands)
                plain = plain_skin(genus(skin), len(rims(skin)))
                images = way_images(skin, plain_way(skin))
                loops = [chance_round(chance, skin, 3) for _ in range(2)]
                others = [round_of(plain, led(skin, images, loop)) for loop in loops]
                if max(map(len, others)) <= 40:
                    self.assertEqual(crossings(skin, *loops), crossings(plain, *others))
                    self.assertEqual(own_crossings(skin, loops[0]), own_crossings(plain, others[0]))

    def test_by_hand(self):
        skin = Skin((0, 2, 3, 1))
        self.assertIs(is_plain_way(skin, [("slide", 1, -1), ("rename", (0, 1, 2, 3))]), True)
        self.assertIs(is_plain_way(skin=skin, thing=(("slide", 1, -1),)), True)
        self.assertEqual(way_images(skin=skin, way=(("slide", 1, -1),)), [(0, 2), (3, 1), (2,), (3,)])
        self.assertIs(is_plain_way(HOLES, []), True)
        self.assertIs(is_plain_way(skin, ()), False)
        self.assertEqual(way_images(HOLES, ()), [(0,), (1,), (2,), (3,)])
        self.assertEqual(way_images(RING, [("rename", (1, 0))]), [(1,), (0,)])

    def test_no_ways(self):
        bad = ODD_VALUES + [
            [None], [[]], [()], [["slide", 1, -1]], [("slide", 1, True)], [("slide", True, -1)], [("slide", 1)],
            [("slide", 1, -1, 0)], [("slide", 1, 0)], [("slide", 4, 1)], [("slide", 1.0, -1)], ["slide"],
            [("slip", 1, -1)], [("rename", [0, 1, 2, 3])], [("rename", (0, 1, 2, True))], [("rename", (0, 1))],
            [("rename",)], [("rename", (0, 2, 1, 3))], [("rename", (0, 1, 2, 3), 0)], [("rename", (False, 1, 2, 3))],
            [("slide", 0, -1)], [("slide", 1, -1), None], [(Counterfeit(), 1, -1)], [(Counterfeit(), (0, 1, 2, 3))],
            {("slide", 1, -1): 0}, iter([("slide", 1, -1)]), [("slide", 1, -1), ("slide", 1, 1)],
        ]
        skin = Skin((0, 2, 3, 1))
        for thing in bad:
            self.assertIs(is_plain_way(skin, thing), False, thing)
            check_error(self, NotNow, None, way_images, skin, thing)
        for no_skin in NO_SKINS:
            check_error(self, BadSkin, ("part", None), plain_way, no_skin)
            check_error(self, BadSkin, ("part", None), is_plain_way, no_skin, None)
            check_error(self, BadSkin, ("part", None), way_images, no_skin, None)

    def test_any_way_there_will_do(self):
        chance = chance_of(45)
        for bands in (2, 3, 4, 5, 6):
            for _ in range(10):
                skin = now = chance_skin(chance, bands)
                steps = []
                for _ in range(chance.randint(0, 6)):
                    if chance.randint(0, 2) and slides_of(now):
                        steps.append(("slide",) + chance.choice(slides_of(now)))
                        now = slid(now, steps[-1][1], steps[-1][2])[0]
                    else:
                        steps.append(("rename", tuple(chance_renaming(chance, bands))))
                        now = renamed(now, steps[-1][1])
                self.assertIs(is_plain_way(skin, steps + plain_way(now)), True)
                is_there = now == plain_skin(genus(skin), len(rims(skin)))
                self.assertIs(is_plain_way(skin, steps), is_there)

    def test_images_of_400_letters_and_beyond(self):
        longest = [("slide", 0, 1)] * 399
        self.assertEqual(way_images(TORUS, longest)[0], (2,) * 399 + (0,))
        check_error(self, TooMany, ("most", 400), way_images, TORUS, longest + [("slide", 0, 1)])
        back = [("slide", 0, -1)] * 400
        self.assertEqual(way_images(TORUS, longest + back[:399]), [(0,), (1,), (2,), (3,)])
        there_and_back = longest + [("slide", 0, 1)] + back
        self.assertIs(is_plain_way(TORUS, there_and_back), True)
        check_error(self, TooMany, ("most", 400), way_images, TORUS, there_and_back)
        check_error(self, NotNow, None, way_images, TORUS, there_and_back + [None])


if __name__ == "__main__":
    unittest.main()
