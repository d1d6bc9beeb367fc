"""Promises [2] (a), [3], [31]: the best drawing."""

import unittest

from tautrounds.best import best_drawing
from tautrounds.drawings import Drawing, crossed, crossed_number
from tautrounds.linked import crossings, fewest, own_crossings
from tautrounds.rounds import gone, turned_about
from tautrounds.skins import Skin, rims
from tests.helpers import (
    HOLES, RING, TORUS, all_drawings, chance_drawing, chance_of, chance_round, chance_rounds, chance_skin,
)
from tests.test_linked import check_rounds_errors


def reader(rounds, strand, to_odd):
    """The letter of the line k bands on from the strand, read from the band's even end to its odd one or back."""
    r, i = strand
    loop = rounds[r]
    way = 1 if (loop[i] % 2 == 0) == to_odd else -1
    return lambda k: loop[(i + way * k) % len(loop)] ^ (0 if way == 1 else 1)


def stands_ahead_by_words(drawing, s, t):
    """Whether s stands ahead of t in the best drawing, from the document's words; None if no end tells it."""
    skin, rounds = drawing.skin, drawing.rounds
    size = len(skin.row)

    def is_ahead(x, one, other):
        around = [skin.row[(skin.row.index(x) + step) % size] for step in range(1, size)]
        return around.index(one) < around.index(other)

    for k in range(1, 90):
        for to_odd in (False, True):
            line_s, line_t = reader(rounds, s, to_odd), reader(rounds, t, to_odd)
            if line_s(k) != line_t(k):
                first = is_ahead(line_s(k - 1) ^ 1, line_s(k), line_t(k))
                return first if to_odd else not first
    return None


class BestDrawingTest(unittest.TestCase):
    def check_rows(self, skin, rounds):
        drawing = best_drawing(skin, rounds)
        self.assertIs(type(drawing), Drawing)
        self.assertEqual((drawing.skin, drawing.rounds), (skin, tuple(rounds)))
        for row in drawing.rows:
            for at, s in enumerate(row):
                for t in row[at + 1:]:
                    told = stands_ahead_by_words(drawing, s, t)
                    if told is not None:
                        self.assertTrue(told)
                        continue
                    alike = [x for x in row if x == s or stands_ahead_by_words(drawing, s, x) is None]
                    r, i = min(alike)
                    self.assertEqual(s < t, rounds[r][i] % 2 == 0)
        return drawing

    def check_numbers(self, skin, rounds):
        pairs = crossed(best_drawing(skin, rounds))
        self.assertEqual(len(pairs), fewest(skin, rounds))
        for r, one in enumerate(rounds):
            for s, other in enumerate(rounds[:r + 1]):
                wanted = own_crossings(skin, one) if r == s else crossings(skin, one, other)
                self.assertEqual(sum(1 for (a, _), (b, _) in pairs if sorted((a, b)) == [s, r]), wanted)

    def test_by_hand(self):
        drawing = best_drawing(HOLES, [(0,), (0, 2)])
        self.assertEqual(drawing.rows, (((1, 0), (0, 0)), ((1, 1),)))
        drawing = best_drawing(skin=RING, rounds=((0, 0),))
        self.assertEqual((drawing.rows, crossed_number(drawing)), ((((0, 0), (0, 1)),), 1))
        self.assertEqual(best_drawing(TORUS, []), Drawing(TORUS, [], [[], []]))
        self.assertEqual(best_drawing(RING, [(1,), (0, 0)]).rows, (((1, 1), (1, 0), (0, 0)),))

    def test_rows_by_words(self):
        chance = chance_of(90)
        for bands in (1, 2, 2, 3, 4, 5, 6):
            for _ in range(12):
                skin = chance_skin(chance, bands)
                rounds = chance_rounds(chance, skin, chance.randint(0, 5), 6)
                if rounds:
                    rounds += [turned_about(skin, rounds[0]), rounds[-1]]
                self.check_rows(skin, rounds)

    def test_as_few_as_fewest(self):
        chance = chance_of(91)
        for bands in (1, 2, 2, 2, 3, 3, 4, 5, 6):
            for _ in range(20):
                skin = chance_skin(chance, bands)
                rounds = chance_rounds(chance, skin, chance.randint(0, 5), 8)
                self.check_numbers(skin, rounds)
                drawing = chance_drawing(chance, skin, rounds)
                self.assertGreaterEqual(crossed_number(drawing), fewest(skin, rounds))

    def test_powers_and_rounds_along_one_another(self):
        chance = chance_of(92)
        for bands in (1, 2, 2, 3, 4, 5, 6):
            for _ in range(6):
                skin = chance_skin(chance, bands)
                loop = chance_round(chance, skin, 4)
                back = turned_about(skin, loop)
                rounds = [gone(skin, loop, 2), back, loop, gone(skin, back, 3), chance_round(chance, skin, 4), loop]
                rounds += [chance.choice(rims(skin))]
                rounds = [one for one in rounds if len(one) <= 6]
                chance.shuffle(rounds)
                self.check_numbers(skin, rounds)
                self.check_rows(skin, rounds)

    def test_no_drawing_has_fewer(self):
        chance = chance_of(93)
        for bands in (1, 2, 2, 3, 4, 5, 6):
            for _ in range(4):
                skin = chance_skin(chance, bands)
                rounds = chance_rounds(chance, skin, 3, 2)
                least = min(crossed_number(drawing) for drawing in all_drawings(skin, rounds))
                self.assertEqual(crossed_number(best_drawing(skin, rounds)), least)

    def test_without_the_last_round(self):
        chance = chance_of(94)
        for _ in range(40):
            skin = chance_skin(chance, chance.randint(1, 6))
            rounds = chance_rounds(chance, skin, 4, 8)
            rows = best_drawing(skin, rounds).rows
            left = tuple(tuple(strand for strand in row if strand[0] != 3) for row in rows)
            self.assertEqual(best_drawing(skin, rounds[:3]).rows, left)

    def test_long_rounds(self):
        one, other = (0,) * 39 + (2,), (0,) * 38 + (2, 2)
        for row in ((0, 2, 1, 3), (0, 1, 2, 3), (0, 2, 3, 1)):
            self.check_numbers(Skin(row), [one, other])
            self.check_numbers(Skin(row), [(0, 2) * 20, (0, 2) * 19 + (2,)])
        self.check_rows(TORUS, [one, (0, 0)])
        self.check_numbers(RING, [(0,) * 10] * 8)

    def test_errors_in_sequence(self):
        check_rounds_errors(self, best_drawing)


if __name__ == "__main__":
    unittest.main()
