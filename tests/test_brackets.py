"""Promises [2] (d), [41]: the bracket."""

import unittest

from tautrounds.best import best_drawing
from tautrounds.brackets import bracket, bracket_drawn
from tautrounds.changes import led_sum
from tautrounds.drawings import Drawing
from tautrounds.errors import BadDrawing, BadNumber, BadSum
from tautrounds.linked import crossings, own_crossings
from tautrounds.rounds import gone, root_of, round_of, turned_about
from tautrounds.skins import mirrored, renamed
from tautrounds.slides import led, slid
from tautrounds.sums import is_sum, weight
from tests.helpers import (
    HOLES, NO_NUMBERS, NO_SKINS, ODD_VALUES, RING, TORUS, all_drawings, chance_change, chance_drawing,
    chance_of, chance_renaming, chance_round, chance_rounds, chance_simple, chance_skin, chance_sum, check_ascending,
    check_error, forward_rims,
)
from tests.test_pieces import points_of
from tests.test_slides import slides_of
from tests.test_sums import MANY, NO_SUMS, check_sum_errors


def bracket_by_words(drawing, one, other):
    """From the document's words, by the sequence of all points round the disc."""
    around = [thing for thing in points_of(drawing) if thing[0] == "point"]
    skin, x, y = drawing.skin, drawing.rounds[one], drawing.rounds[other]

    def chord(r, loop, i):
        j = (i + 1) % len(loop)
        return [around.index(("point", (r, i), loop[i] ^ 1)), around.index(("point", (r, j), loop[j]))]

    told = {}
    for i in range(len(x)):
        for j in range(len(y)):
            (p, q), (r, s) = chord(one, x, i), chord(other, y, j)
            order = sorted([(point - p) % len(around) for point in (p, r, q, s)])
            met = [(point - p) % len(around) for point in (p, r, q, s)]
            sign = 1 if met == order else -1 if [met[0], met[3], met[2], met[1]] == order else 0
            loop = round_of(skin, x[i + 1:] + x[:i + 1] + y[j + 1:] + y[:j + 1])
            if loop:
                told[loop] = told.get(loop, 0) + sign
    return {loop: told[loop] for loop in sorted(told) if told[loop]}


def minus(some):
    return {loop: -number for loop, number in some.items()}


def all_added(skin, sums):
    total = {}
    for some in sums:
        for loop, number in some.items():
            total[loop] = total.get(loop, 0) + number
    return {loop: number for loop, number in total.items() if number}


class BracketDrawnTest(unittest.TestCase):
    def test_by_words(self):
        chance = chance_of(320)
        for bands in (1, 2, 2, 3, 4, 5, 6):
            for _ in range(12):
                skin = chance_skin(chance, bands)
                rounds = chance_rounds(chance, skin, 3, 6)
                drawing = chance_drawing(chance, skin, rounds)
                for one, other in ((0, 1), (2, 0), (1, 2)):
                    told = bracket_drawn(drawing, one, other)
                    self.assertEqual(told, bracket_by_words(drawing, one, other))
                    check_ascending(self, told)

    def test_same_for_all_drawings(self):
        for skin in (TORUS, HOLES, RING):
            for rounds in (((0,), (0,)), ((0,), (1, 1)), ((0, 0), (0,))):
                wanted = bracket(skin, {rounds[0]: 1}, {rounds[1]: 1})
                for drawing in all_drawings(skin, rounds):
                    self.assertEqual(bracket_drawn(drawing, 0, 1), wanted)
        for skin in (TORUS, HOLES):
            for rounds in (((0, 2), (0, 3)), ((0, 3), (2,), (0,)), ((0, 2, 2), (0, 3)), ((0, 2), (1, 3))):
                wanted = bracket(skin, {rounds[0]: 1}, {rounds[1]: 1})
                for drawing in all_drawings(skin, rounds):
                    self.assertEqual(bracket_drawn(drawing, 0, 1), wanted)
                    self.assertEqual(bracket_drawn(drawing, 1, 0), minus(wanted))

    def test_same_by_chance(self):
        chance = chance_of(321)
        for bands in (1, 2, 2, 3, 4, 5, 6):
            for _ in range(25):
                skin = chance_skin(chance, bands)
                rounds = chance_rounds(chance, skin, 3, 7)
                if chance.randrange(3) == 0:
                    rounds[2] = chance.choice([rounds[0], turned_about(skin, rounds[0])])
                drawing = chance_drawing(chance, skin, rounds)
                for one, other in ((0, 1), (1, 2), (2, 0)):
                    wanted = bracket(skin, {rounds[one]: 1}, {rounds[other]: 1})
                    self.assertEqual(bracket_drawn(drawing, one, other), wanted)
                    self.assertEqual(bracket_drawn(drawing=drawing, one=other, other=one), minus(wanted))

    def test_errors_in_sequence(self):
        drawing = best_drawing(TORUS, [(0,), (2,)])
        for thing in ODD_VALUES + NO_SKINS:
            check_error(self, BadDrawing, ("part", None), bracket_drawn, thing, None, None)
        for number in NO_NUMBERS + [-1, 2]:
            check_error(self, BadNumber, ("part", "one"), bracket_drawn, drawing, number, None)
        for number in NO_NUMBERS + [-1, 2, 1]:
            check_error(self, BadNumber, ("part", "other"), bracket_drawn, drawing, 1, number)
        empty = Drawing(TORUS, [], [[], []])
        check_error(self, BadNumber, ("part", "one"), bracket_drawn, empty, 0, 0)


class BracketTest(unittest.TestCase):
    def test_by_hand(self):
        self.assertEqual(bracket(TORUS, {(0,): 1}, {(2,): 1}), {(0, 2): 1})
        self.assertEqual(bracket(TORUS, {(0, 2): 1}, {(0, 3): 1}), {(0, 0): -1, (0, 2, 0, 3): -1})
        self.assertEqual(bracket(skin=TORUS, one={(0,): 2}, other={(2,): -3}), {(0, 2): -6})
        self.assertEqual(bracket(TORUS, {}, {(2,): 1}), {})
        self.assertEqual(bracket(TORUS, {(0,): 1}, {}), {})

    def test_sums_are_added_up(self):
        chance = chance_of(322)
        for bands in (2, 3, 4, 6):
            for _ in range(6):
                skin = chance_skin(chance, bands)
                one, other = chance_sum(chance, skin, 3, 4), chance_sum(chance, skin, 3, 4)
                rows = [
                    {loop: m * n * number for loop, number in bracket(skin, {x: 1}, {y: 1}).items()}
                    for x, m in one.items() for y, n in other.items()
                ]
                told = bracket(skin, one, other)
                check_ascending(self, told)
                self.assertEqual(told, all_added(skin, rows))
                self.assertEqual(bracket(skin, other, one), minus(told))

    def test_three_go_round_to_nothing(self):
        chance = chance_of(323)
        tried = 0
        for bands in (2, 2, 3, 3, 4, 6):
            for _ in range(8):
                skin = chance_skin(chance, bands)
                x, y, z = [chance_sum(chance, skin, 2, 4) for _ in range(3)]
                inner = [bracket(skin, y, z), bracket(skin, z, x), bracket(skin, x, y)]
                if all(is_sum(skin, some) for some in inner):
                    rows = [bracket(skin, one, other) for one, other in zip((x, y, z), inner)]
                    self.assertEqual(all_added(skin, rows), {})
                    tried += any(rows)
        self.assertGreater(tried, 20)

    def test_it_counts_crossings_of_simple_rounds(self):
        chance = chance_of(324)
        for bands in (1, 2, 2, 3, 4, 5, 6):
            for _ in range(15):
                skin = chance_skin(chance, bands)
                x, y = chance_simple(chance, skin, 6), chance_round(chance, skin, 8)
                self.assertEqual(weight(skin, bracket(skin, {x: 1}, {y: 1})), crossings(skin, x, y))

    def test_it_counts_own_crossings(self):
        chance = chance_of(325)
        for bands in (1, 2, 2, 3, 4, 6):
            for _ in range(8):
                skin = chance_skin(chance, bands)
                x = root_of(skin, chance_round(chance, skin, 5))[0]
                own = own_crossings(skin, x)
                for a, b in ((1, 3), (3, 1), (2, 3), (4, 1)):
                    told = bracket(skin, {gone(skin, x, a): 1}, {gone(skin, x, b): 1})
                    self.assertEqual(sum(map(abs, told.values())), 2 * a * b * own)
                self.assertEqual(bracket(skin, {x: 1}, {gone(skin, x, 3): 1}) == {}, own == 0)
        loop = (0, 2, 2, 0, 3)
        self.assertEqual(weight(TORUS, bracket(TORUS, {loop: 1}, {loop * 3: 1})), 6 * own_crossings(TORUS, loop))

    def test_turned_and_mirrored(self):
        chance = chance_of(326)
        for _ in range(40):
            skin = chance_skin(chance, chance.randint(2, 6))
            x, y = chance_round(chance, skin, 6), chance_round(chance, skin, 6)
            told = bracket(skin, {x: 1}, {y: 1})
            turned = bracket(skin, {turned_about(skin, x): 1}, {turned_about(skin, y): 1})
            self.assertEqual(turned, {turned_about(skin, loop): number for loop, number in told.items()})
            self.assertEqual(bracket(mirrored(skin), {x: 1}, {y: 1}), minus(told))

    def test_led_by_slides_renamings_and_changes(self):
        chance = chance_of(327)
        for bands in (2, 2, 3, 4, 5, 6):
            for _ in range(6):
                skin = chance_skin(chance, bands)
                x, y = chance_round(chance, skin, 4), chance_round(chance, skin, 4)
                told = bracket(skin, {x: 1}, {y: 1})
                letters = chance_renaming(chance, bands)
                led_skins = [(renamed(skin, letters), [(letter,) for letter in letters])]
                if slides_of(skin):
                    led_skins.append(slid(skin, *chance.choice(slides_of(skin))))
                for other, images in led_skins:
                    lead = {loop: round_of(other, led(skin, images, loop)) for loop in [x, y] + list(told)}
                    wanted = {lead[loop]: number for loop, number in told.items()}
                    self.assertEqual(bracket(other, {lead[x]: 1}, {lead[y]: 1}), wanted)
                images = chance_change(chance, skin, 1)
                led_x, led_y = led_sum(skin, images, {x: 1}), led_sum(skin, images, {y: 1})
                if is_sum(skin, led_x) and is_sum(skin, led_y):
                    self.assertTrue(forward_rims(skin, images))
                    self.assertEqual(bracket(skin, led_x, led_y), led_sum(skin, images, told))

    def test_change_that_turns_rims(self):
        chance = chance_of(328)
        # Band 0 the other way round: on one handle that leads the rim to the rim turned about.
        images = [(1,), (0,), (2,), (3,)]
        self.assertFalse(forward_rims(TORUS, images))
        for _ in range(20):
            x, y = chance_round(chance, TORUS, 5), chance_round(chance, TORUS, 5)
            told = bracket(TORUS, {x: 1}, {y: 1})
            led_x, led_y = led_sum(TORUS, images, {x: 1}), led_sum(TORUS, images, {y: 1})
            self.assertEqual(bracket(TORUS, led_x, led_y), minus(led_sum(TORUS, images, told)))

    def test_numbers_added_up(self):
        chance = chance_of(329)
        for _ in range(40):
            skin = chance_skin(chance, chance.randint(1, 6))
            x, y = chance_round(chance, skin, 7), chance_round(chance, skin, 7)
            wanted = 0
            for b in range(skin.bands):
                for c in range(skin.bands):
                    inner = bracket(skin, {(2 * b,): 1}, {(2 * c,): 1})
                    of_x = x.count(2 * b) - x.count(2 * b + 1)
                    wanted += of_x * (y.count(2 * c) - y.count(2 * c + 1)) * sum(inner.values())
            self.assertEqual(sum(bracket(skin, {x: 1}, {y: 1}).values()), wanted)

    def test_long_rounds(self):
        told = bracket(TORUS, {(0,) * 40: 10 ** 9}, {(2,) * 40: -(10 ** 9)})
        self.assertEqual(told, {(0,) * 40 + (2,) * 40: -1600 * 10 ** 18})
        check_error(self, BadSum, None, bracket, TORUS, told, {})
        sixty = {loop: 1 for loop in MANY[:60]}
        self.assertEqual(bracket(TORUS, sixty, {(0,): 1}), minus(bracket(TORUS, {(0,): 1}, sixty)))

    def test_what_is_handed_in_stays(self):
        one, other = {(2,): 1, (0,): 3}, {(0, 2): 1}
        told = bracket(TORUS, one, other)
        told.clear()
        self.assertEqual((one, other), ({(2,): 1, (0,): 3}, {(0, 2): 1}))
        self.assertEqual(list(one), [(2,), (0,)])
        self.assertNotEqual(bracket(TORUS, one, other), {})

    def test_errors_in_sequence(self):
        check_sum_errors(self, bracket, None)
        for thing in NO_SUMS:
            check_error(self, BadSum, None, bracket, TORUS, {}, thing)


if __name__ == "__main__":
    unittest.main()
