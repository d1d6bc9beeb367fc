"""Promises [2] (d), [42]: the split."""

import unittest

from tautrounds.best import best_drawing
from tautrounds.brackets import bracket
from tautrounds.drawings import Drawing
from tautrounds.errors import BadDrawing, BadNumber
from tautrounds.linked import own_crossings
from tautrounds.rounds import gone, root_of, round_of, turned_about
from tautrounds.skins import mirrored
from tautrounds.splits import split, split_drawn
from tautrounds.sums import is_sum
from tests.helpers import (
    HOLES, NO_NUMBERS, NO_SKINS, ODD_VALUES, RING, TORUS, all_drawings, chance_drawing, chance_of, chance_round,
    chance_rounds, chance_simple, chance_skin, chance_sum, check_ascending, check_error,
)
from tests.test_pieces import points_of
from tests.test_sums import check_sum_errors


def split_by_words(drawing, index):
    """From the document's words, by the sequence of all points round the disc."""
    around = [thing for thing in points_of(drawing) if thing[0] == "point"]
    loop = drawing.rounds[index]
    size = len(loop)

    def chord(i):
        j = (i + 1) % size
        return around.index(("point", (index, i), loop[i] ^ 1)), around.index(("point", (index, j), loop[j]))

    def letters(start, last):
        places = [(start + step) % size for step in range(size)]
        return round_of(drawing.skin, tuple(loop[place] for place in places[:places.index(last) + 1]))

    told = {}
    for i in range(size):
        for j in range(size):
            (p, q), (r, s) = chord(i), chord(j)
            met = [(point - p) % len(around) for point in (p, r, q, s)]
            if i != j and met == sorted(met):
                u, v = letters((i + 1) % size, j), letters((j + 1) % size, i)
                told[u, v] = told.get((u, v), 0) + 1
                told[v, u] = told.get((v, u), 0) - 1
    return {pair: told[pair] for pair in sorted(told) if told[pair]}


def add_up(rows):
    total = {}
    for key, number in rows:
        total[key] = total.get(key, 0) + number
    return {key: number for key, number in total.items() if number}


def put_on(skin, x, pairs):
    """A sum on a dict from pairs to numbers, as rows."""
    rows = []
    for (u, v), number in pairs.items():
        rows += [((w, v), number * many) for w, many in bracket(skin, x, {u: 1}).items()]
        rows += [((u, w), number * many) for w, many in bracket(skin, x, {v: 1}).items()]
    return rows


class SplitDrawnTest(unittest.TestCase):
    def test_by_words(self):
        chance = chance_of(330)
        for bands in (1, 2, 2, 3, 4, 5, 6):
            for _ in range(12):
                skin = chance_skin(chance, bands)
                drawing = chance_drawing(chance, skin, chance_rounds(chance, skin, 2, 8))
                for index in (0, 1):
                    told = split_drawn(drawing, index)
                    check_ascending(self, told)
                    self.assertEqual(told, split_by_words(drawing, index))
                    self.assertTrue(all(u and v for u, v in told))
                    self.assertEqual(told, split(skin, {drawing.rounds[index]: 1}))
                    self.assertTrue(all(told[v, u] == -number for (u, v), number in told.items()))

    def test_same_for_all_drawings(self):
        for skin in (RING, TORUS, HOLES):
            for loop in ((0, 0, 0), (0, 0)):
                for drawing in all_drawings(skin, [loop]):
                    self.assertEqual(split_drawn(drawing, 0), split(skin, {loop: 1}))
        for skin in (TORUS, HOLES):
            for loop in ((0, 2, 0, 3), (0, 0, 2, 2), (0, 2, 1, 3), (0, 2, 0, 2), (0, 0, 3, 3), (0, 0, 2, 0, 3)):
                for drawing in all_drawings(skin, [loop]):
                    self.assertEqual(split_drawn(drawing=drawing, index=0), split(skin, {loop: 1}))

    def test_errors_in_sequence(self):
        drawing = best_drawing(TORUS, [(0,), (2,)])
        for thing in ODD_VALUES + NO_SKINS:
            check_error(self, BadDrawing, ("part", None), split_drawn, thing, None)
        for number in NO_NUMBERS + [-1, 2]:
            check_error(self, BadNumber, ("part", "index"), split_drawn, drawing, number)
        check_error(self, BadNumber, ("part", "index"), split_drawn, Drawing(TORUS, [], [[], []]), 0)


class SplitTest(unittest.TestCase):
    def test_by_hand(self):
        self.assertEqual(split(HOLES, {(0, 3): 1}), {((0,), (3,)): -1, ((3,), (0,)): 1})
        self.assertEqual(split(skin=HOLES, some={(0, 3): -2, (0,): 7}), {((0,), (3,)): 2, ((3,), (0,)): -2})
        self.assertEqual(split(HOLES, {}), {})

    def test_sums_are_added_up(self):
        chance = chance_of(331)
        for bands in (2, 3, 4, 6):
            for _ in range(6):
                skin = chance_skin(chance, bands)
                some = chance_sum(chance, skin, 4, 7)
                rows = [(key, n * many) for x, n in some.items() for key, many in split(skin, {x: 1}).items()]
                told = split(skin, some)
                check_ascending(self, told)
                self.assertEqual(told, add_up(rows))

    def test_of_brackets(self):
        chance = chance_of(332)
        tried = 0
        for bands in (2, 2, 3, 3, 4, 6):
            for _ in range(8):
                skin = chance_skin(chance, bands)
                x, y = chance_sum(chance, skin, 2, 5), chance_sum(chance, skin, 2, 5)
                inner = bracket(skin, x, y)
                if is_sum(skin, inner):
                    rows = put_on(skin, x, split(skin, y))
                    rows += [(key, -number) for key, number in put_on(skin, y, split(skin, x))]
                    self.assertEqual(split(skin, inner), add_up(rows))
                    tried += bool(inner)
        self.assertGreater(tried, 20)

    def test_brackets_of_pairs_come_to_nothing(self):
        chance = chance_of(333)
        for bands in (1, 2, 2, 3, 4, 6):
            for _ in range(8):
                skin = chance_skin(chance, bands)
                told = split(skin, chance_sum(chance, skin, 2, 9))
                rows = [
                    (loop, number * many) for (u, v), number in told.items()
                    for loop, many in bracket(skin, {u: 1}, {v: 1}).items()
                ]
                self.assertEqual(add_up(rows), {})

    def test_triples_come_to_nothing(self):
        chance = chance_of(334)
        for bands in (1, 2, 2, 3, 4, 6):
            for _ in range(8):
                skin = chance_skin(chance, bands)
                rows = []
                for (u, v), number in split(skin, {chance_round(chance, skin, 10): 1}).items():
                    for (a, b), many in split(skin, {u: 1}).items():
                        rows += [(triple, number * many) for triple in ((a, b, v), (b, v, a), (v, a, b))]
                self.assertEqual(add_up(rows), {})

    def test_it_counts(self):
        chance = chance_of(335)
        for bands in (1, 2, 2, 3, 4, 6):
            for _ in range(8):
                skin = chance_skin(chance, bands)
                x = root_of(skin, chance_round(chance, skin, 6))[0]
                own = own_crossings(skin, x)
                self.assertEqual(split(skin, {gone(skin, x, 3): 1}) == {}, own == 0)
                told = split(skin, {gone(skin, x, 4): 1})
                self.assertEqual(sum(map(abs, told.values())), 32 * own)
                simple = chance_simple(chance, skin, 6)
                for times in range(1, 7):
                    self.assertEqual(split(skin, {gone(skin, simple, times): 1}), {})

    def test_turned_and_mirrored(self):
        chance = chance_of(336)
        for _ in range(40):
            skin = chance_skin(chance, chance.randint(1, 6))
            x = chance_round(chance, skin, 9)
            told = split(skin, {x: 1})
            turned = {(turned_about(skin, v), turned_about(skin, u)): number for (u, v), number in told.items()}
            self.assertEqual(split(skin, {turned_about(skin, x): 1}), turned)
            self.assertEqual(split(mirrored(skin), {x: 1}), {pair: -number for pair, number in told.items()})

    def test_what_is_handed_in_stays(self):
        some = {(0, 3): 2}
        split(HOLES, some).clear()
        self.assertEqual(some, {(0, 3): 2})
        self.assertEqual(len(split(HOLES, some)), 2)

    def test_errors_in_sequence(self):
        check_sum_errors(self, split)


if __name__ == "__main__":
    unittest.main()
