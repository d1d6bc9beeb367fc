"""Promises [2] (c), [3], [33]: exchanges, and straightening without ever adding a crossing."""

import unittest

from tautrounds.best import best_drawing
from tautrounds.drawings import Drawing, crossed_number
from tautrounds.errors import BadDrawing, BadNumber
from tautrounds.linked import fewest
from tautrounds.patches import is_fewest
from tautrounds.pushes import exchanged, is_way, rise, straightened
from tests.helpers import (
    HOLES, NO_NUMBERS, NO_SKINS, ODD_VALUES, RING, TORUS, Counterfeit, all_drawings, chance_drawing, chance_of,
    chance_rounds, chance_skin, chance_unlike, check_error,
)
from tests.test_patches import NOT_DRAWN_ONCE

BY_HAND = Drawing(HOLES, [(0,), (0, 2)], [[(0, 0), (1, 0)], [(1, 1)]])


def places_of(drawing):
    return [(band, place) for band, row in enumerate(drawing.rows) for place in range(len(row) - 1)]


class ExchangedTest(unittest.TestCase):
    def test_by_hand(self):
        self.assertEqual(exchanged(BY_HAND, 0, 0).rows, (((1, 0), (0, 0)), ((1, 1),)))
        self.assertEqual(rise(BY_HAND, 0, 0), -2)
        self.assertEqual(rise(drawing=exchanged(drawing=BY_HAND, band=0, place=0), band=0, place=0), 2)
        self.assertEqual(BY_HAND.rows, (((0, 0), (1, 0)), ((1, 1),)))

    def test_of_any_rounds(self):
        chance = chance_of(110)
        for bands in (1, 1, 2, 2, 3, 4, 5, 6):
            for _ in range(10):
                skin = chance_skin(chance, bands)
                drawing = chance_drawing(chance, skin, chance_rounds(chance, skin, chance.randint(0, 4), 5))
                for band, place in places_of(drawing):
                    other = exchanged(drawing, band, place)
                    row = list(drawing.rows[band])
                    row[place:place + 2] = [row[place + 1], row[place]]
                    self.assertEqual(other.rows, drawing.rows[:band] + (tuple(row),) + drawing.rows[band + 1:])
                    self.assertEqual((other.skin, other.rounds), (drawing.skin, drawing.rounds))
                    self.assertEqual(rise(drawing, band, place), crossed_number(other) - crossed_number(drawing))
                    self.assertEqual(exchanged(other, band, place), drawing)

    def test_rises_of_rounds_drawn_once(self):
        chance = chance_of(111)
        for _ in range(40):
            skin = chance_skin(chance, chance.randint(2, 6))
            drawing = chance_drawing(chance, skin, chance_unlike(chance, skin, 4, 6))
            for band, place in places_of(drawing):
                self.assertIn(rise(drawing, band, place), (2, 0, -2))

    def test_errors_in_sequence(self):
        for act in (exchanged, rise):
            for thing in ODD_VALUES + NO_SKINS:
                check_error(self, BadDrawing, ("part", None), act, thing, None, None)
            for band in NO_NUMBERS + [-1, 2]:
                check_error(self, BadNumber, ("part", "band"), act, BY_HAND, band, None)
            for place in NO_NUMBERS + [-1, 1, 2]:
                check_error(self, BadNumber, ("part", "place"), act, BY_HAND, 0, place)
            # A row of one strand, and one of none.
            check_error(self, BadNumber, ("part", "place"), act, BY_HAND, 1, 0)
            for place in (-2, -1, 0):
                check_error(self, BadNumber, ("part", "place"), act, Drawing(RING, [], [[]]), 0, place)
            last = Drawing(RING, [(0,) * 4], [[(0, 2), (0, 0), (0, 3), (0, 1)]])
            self.assertIsNotNone(act(last, 0, 2))
            check_error(self, BadNumber, ("part", "place"), act, last, 0, 3)


class StraightenedTest(unittest.TestCase):
    def check_way(self, drawing):
        way = straightened(drawing)
        self.assertIs(type(way), list)
        self.assertEqual(straightened(drawing), way)
        now, many = drawing, crossed_number(drawing)
        for band, place in way:
            self.assertLessEqual(rise(now, band, place), 0)
            now = exchanged(now, band, place)
        self.assertIs(is_fewest(now), True)
        self.assertEqual(crossed_number(now), fewest(drawing.skin, drawing.rounds))
        self.assertLessEqual(crossed_number(now), many)
        self.assertIs(is_way(drawing, way), True)
        self.assertIs(is_way(drawing, tuple(way)), True)
        if is_fewest(drawing):
            self.assertEqual(way, [])

    def test_by_hand(self):
        self.assertEqual(straightened(drawing=BY_HAND), [(0, 0)])
        self.assertIs(is_way(drawing=BY_HAND, thing=[(0, 0)]), True)
        self.assertEqual(straightened(Drawing(RING, [], [[]])), [])

    def test_of_all_drawings(self):
        chance = chance_of(112)
        cases = [(TORUS, [(0, 2), (0, 3)]), (HOLES, [(0, 3), (0, 0, 2)]), (TORUS, [(0, 0, 2), (0,)])]
        cases += [(chance_skin(chance, bands), None) for bands in (2, 2, 3, 4, 5, 6) for _ in range(2)]
        for skin, rounds in cases:
            for drawing in all_drawings(skin, rounds or chance_unlike(chance, skin, 2, 3)):
                self.check_way(drawing)

    def test_of_some_drawings(self):
        chance = chance_of(113)
        for bands in (2, 2, 2, 3, 3, 4, 5, 6):
            for _ in range(6):
                skin = chance_skin(chance, bands)
                self.check_way(chance_drawing(chance, skin, chance_unlike(chance, skin, 4, 8)))
                best = best_drawing(skin, chance_unlike(chance, skin, 4, 8))
                self.assertEqual(straightened(best), [])

    def test_of_long_rounds(self):
        chance = chance_of(114)
        for skin in (TORUS, HOLES):
            for rounds in ([(0,) * 39 + (2,), (0,) * 38 + (2, 2)], [(0,) + (0, 2) * 19, (0, 2) * 17 + (2,)]):
                drawing = chance_drawing(chance, skin, rounds)
                self.assertIs(is_way(drawing, straightened(drawing)), True)

    def test_no_ways(self):
        bad = ODD_VALUES + [
            [], [()], [(0,)], [[0, 0]], [(0, 0, 0)], [(True, 0)], [(False, 0)], [(0, False)], [(0, 0.0)], [(0, 1)],
            [(1, 0)], [(2, 0)], [(-1, 0)], [None], [(0, 0), None], [(0, 0), (0, 0)], [(0, 0)] * 3, {(0, 0): 0},
            [(0, -1)], [(Counterfeit(), 0)], [(0, Counterfeit())], iter([(0, 0)]), "00", [("0", "0")],
        ]
        for thing in bad:
            self.assertIs(is_way(BY_HAND, thing), False, thing)
        self.assertIs(is_way(BY_HAND, ((0, 0),)), True)
        self.assertIs(is_way(exchanged(BY_HAND, 0, 0), []), True)
        self.assertIs(is_way(exchanged(BY_HAND, 0, 0), [(0, 0), (0, 0)]), False)

    def test_a_way_may_go_round_about(self):
        drawing = Drawing(TORUS, [(0,), (0, 2)], [[(0, 0), (1, 0)], [(1, 1)]])
        self.assertEqual(rise(drawing, 0, 0), 0)
        for times in range(6):
            self.assertIs(is_way(drawing, [(0, 0)] * times), True)

    def test_errors_in_sequence(self):
        chance = chance_of(115)
        for thing in ODD_VALUES + NO_SKINS:
            check_error(self, BadDrawing, ("part", None), straightened, thing)
            check_error(self, BadDrawing, ("part", None), is_way, thing, [])
        for skin, rounds in NOT_DRAWN_ONCE:
            drawing = chance_drawing(chance, skin, rounds)
            check_error(self, BadDrawing, ("part", "rounds"), straightened, drawing)
            check_error(self, BadDrawing, ("part", "rounds"), is_way, drawing, None)
            for band, place in places_of(drawing)[:3]:
                self.assertIn(rise(drawing, band, place), (-2, 0, 2))


if __name__ == "__main__":
    unittest.main()
