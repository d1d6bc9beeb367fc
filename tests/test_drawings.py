"""Promises [3], [30]: drawings, and the chords that cross in them."""

import unittest

from tautrounds.drawings import Drawing, crossed, crossed_number
from tautrounds.errors import BadDrawing, BadRounds, BadSkin
from tautrounds.skins import Skin
from tests.helpers import (
    HOLES, NO_SKINS, ODD_VALUES, RING, TORUS, Counterfeit, chance_drawing, chance_of, chance_rounds, chance_skin,
    check_error,
)
from tests.test_linked import check_rounds_errors

ROUNDS = [(0,), (0, 2)]
ROWS = [[(0, 0), (1, 0)], [(1, 1)]]


def crossed_by_words(drawing):
    """From the document's words: the points are numbered once round the disc."""
    points = []
    for end in drawing.skin.row:
        row = drawing.rows[end // 2]
        points += [(end, strand) for strand in (row if end % 2 == 0 else row[::-1])]
    chords = {}
    for r, loop in enumerate(drawing.rounds):
        for i, letter in enumerate(loop):
            j = (i + 1) % len(loop)
            chords[r, i] = points.index((letter ^ 1, (r, i))), points.index((loop[j], (r, j)))
    found = []
    for s in chords:
        for t in chords:
            owners = [owner for _, owner in sorted([(p, 0) for p in chords[s]] + [(p, 1) for p in chords[t]])]
            if s < t and owners in ([0, 1, 0, 1], [1, 0, 1, 0]):
                found.append((s, t))
    return sorted(found)


class DrawingTest(unittest.TestCase):
    def test_attributes(self):
        drawing = Drawing(HOLES, ROUNDS, ROWS)
        self.assertEqual(drawing.skin, HOLES)
        self.assertEqual(drawing.rounds, ((0,), (0, 2)))
        self.assertEqual(drawing.rows, (((0, 0), (1, 0)), ((1, 1),)))
        self.assertEqual([type(drawing.rounds), type(drawing.rows), type(drawing.rows[0])], [tuple] * 3)
        self.assertEqual(Drawing(skin=HOLES, rounds=tuple(ROUNDS), rows=tuple(map(tuple, ROWS))), drawing)
        self.assertEqual(Drawing(TORUS, [], [[], []]).rows, ((), ()))

    def test_what_is_handed_in_stays(self):
        rounds, rows = [(0,), (0, 2)], [[(0, 0), (1, 0)], [(1, 1)]]
        drawing = Drawing(HOLES, rounds, rows)
        self.assertEqual((rounds, rows), (ROUNDS, ROWS))
        rows[0].pop()
        rounds.pop()
        self.assertEqual(drawing, Drawing(HOLES, ROUNDS, ROWS))

    def test_equal(self):
        drawing = Drawing(HOLES, ROUNDS, ROWS)
        self.assertTrue(drawing == Drawing(Skin([1, 2, 3, 0]), ROUNDS, ROWS))
        self.assertFalse(drawing != Drawing(HOLES, ROUNDS, ROWS))
        others = [
            Drawing(TORUS, ROUNDS, ROWS), Drawing(HOLES, [(0,), (0, 3)], ROWS),
            Drawing(HOLES, ROUNDS, [[(1, 0), (0, 0)], [(1, 1)]]), HOLES, None, (HOLES, ROUNDS, ROWS), drawing.rows,
        ]
        for other in others:
            self.assertFalse(drawing == other)
            self.assertTrue(drawing != other)

    def test_bad_rows(self):
        good = [(0, 0), (1, 0)]
        bad = ODD_VALUES + [
            [], [good], [good, [(1, 1)], []], [good, []], [good, [(1, 1), (1, 1)]], [good, [(0, 0)]],
            [[(0, 0)], [(1, 1)]], [[(0, 0), (0, 0)], [(1, 1)]], [[(0, 0), (1, 1)], [(1, 0)]], [good, [[1, 1]]],
            [good, [(True, 1)]], [good, [(1, 1.0)]], [good, [(1, 1, 0)]], [good, [1]], [good, (1, 1)],
            [good, None], [good, "1"], [[(False, 0), (1, 0)], [(1, 1)]], [good, {(1, 1): 0}], [good, [None]],
            [good, [(1, Counterfeit())]], [good + [(1, 1)], []], {0: good, 1: [(1, 1)]}, iter([good, [(1, 1)]]),
            [good, [(1, -1)]], [good, [(2, 0)]],
        ]
        for rows in bad:
            check_error(self, BadDrawing, ("part", "rows"), Drawing, HOLES, ROUNDS, rows)

    def test_errors_in_sequence(self):
        check_rounds_errors(self, Drawing, None)
        for thing in ODD_VALUES + NO_SKINS:
            check_error(self, BadDrawing, ("part", None), crossed, thing)
            check_error(self, BadDrawing, ("part", None), crossed_number, thing)
        check_error(self, BadSkin, ("part", None), Drawing, (0, 1), [(0,)], [[(0, 0)]])
        check_error(self, BadRounds, ("part", 0), Drawing, RING, [(2,)], [[(0, 0)]])


class CrossedTest(unittest.TestCase):
    def test_by_hand(self):
        drawing = Drawing(HOLES, ROUNDS, ROWS)
        self.assertEqual(crossed(drawing), [((0, 0), (1, 0)), ((0, 0), (1, 1))])
        self.assertEqual(crossed_number(drawing), 2)
        other = Drawing(HOLES, ROUNDS, [[(1, 0), (0, 0)], [(1, 1)]])
        self.assertEqual((crossed(drawing=other), crossed_number(drawing=other)), ([], 0))
        self.assertEqual(crossed(Drawing(RING, [], [[]])), [])

    def test_by_points(self):
        chance = chance_of(80)
        for bands in (1, 2, 2, 3, 4, 5, 6):
            for _ in range(15):
                skin = chance_skin(chance, bands)
                rounds = chance_rounds(chance, skin, chance.randint(0, 5), 6)
                drawing = chance_drawing(chance, skin, rounds)
                self.assertEqual(crossed(drawing), crossed_by_words(drawing))
                self.assertEqual(crossed_number(drawing), len(crossed_by_words(drawing)))

    def test_new_each_time(self):
        drawing = Drawing(HOLES, ROUNDS, ROWS)
        crossed(drawing).clear()
        self.assertEqual(len(crossed(drawing)), 2)


if __name__ == "__main__":
    unittest.main()
