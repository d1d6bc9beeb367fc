"""Promises [2] (b), [3], [32]: patches, and what a drawing without them has."""

import unittest

from tautrounds.best import best_drawing
from tautrounds.drawings import Drawing, crossed, crossed_number
from tautrounds.errors import BadDrawing
from tautrounds.lines import stretch
from tautrounds.linked import fewest
from tautrounds.patches import is_fewest, patches
from tests.helpers import (
    HOLES, NO_SKINS, ODD_VALUES, RING, TORUS, all_drawings, chance_drawing, chance_of, chance_skin, chance_unlike,
    check_error,
)

# Lists of rounds of which some are gone several times, or go along one another.
NOT_DRAWN_ONCE = [
    (RING, [(0, 0)]), (RING, [(0,), (1,)]), (RING, [(0,), (0,)]), (TORUS, [(2,), (0, 2, 0, 2)]),
    (TORUS, [(0, 2), (2,), (1, 3)]), (HOLES, [(0,), (2,), (2,)]), (HOLES, [(0,) * 40]), (HOLES, [(0,), (1, 1)]),
]


def pairs_of_lines(drawing):
    """For each pair of lines with a band in common: the pairs of strands of its bands, in their sequence."""
    rounds = drawing.rounds
    found = {}
    strands = [(r, i) for r, loop in enumerate(rounds) for i in range(len(loop))]
    for s in strands:
        for t in strands:
            one, other = rounds[s[0]], rounds[t[0]]
            if s == t or one[s[1]] // 2 != other[t[1]] // 2:
                continue
            begin, length, linked = stretch(drawing.skin, one, s[1], other, t[1])
            if begin:
                continue
            way = 1 if one[s[1]] == other[t[1]] else -1
            bands = [
                ((s[0], (s[1] + k) % len(one)), (t[0], (t[1] + way * k) % len(other)))
                for k in range(length)
            ]
            # Seen from the other line it is the same pair: its first and its last band tell it once.
            first, last = tuple(sorted(bands[0])), tuple(sorted(bands[-1]))
            found[min((first, last), (last, first))] = (bands, way, linked)
    return list(found.values())


def crossings_along(drawing, bands, way):
    """In which of the discs ahead of, between and behind the bands both lines cross."""
    pairs = set(crossed(drawing))

    def crosses(one, other):
        return (min(one, other), max(one, other)) in pairs

    def back(strand):
        return strand[0], (strand[1] - 1) % len(drawing.rounds[strand[0]])

    s, t = bands[0]
    found = [0] if crosses(back(s), back(t) if way == 1 else t) else []
    for at, (s, t) in enumerate(bands):
        if crosses(s, t if way == 1 else back(t)):
            found.append(at + 1)
    return found


def patches_by_words(drawing):
    found = []
    for bands, way, _ in pairs_of_lines(drawing):
        discs = crossings_along(drawing, bands, way)
        for first, last in zip(discs, discs[1:]):
            ends = [tuple(sorted(bands[first])), tuple(sorted(bands[last - 1]))]
            found.append(min(ends) + (last - first,))
    return sorted(found)


class PatchesTest(unittest.TestCase):
    def check_drawing(self, drawing):
        found = patches(drawing)
        self.assertEqual(found, patches_by_words(drawing))
        least = fewest(drawing.skin, drawing.rounds)
        many = crossed_number(drawing)
        self.assertIs(is_fewest(drawing), many == least)
        self.assertIs(is_fewest(drawing), not found)
        self.assertLessEqual(len(found), many - least)
        self.assertLessEqual(many - least, 2 * len(found))

    def test_by_hand(self):
        drawing = Drawing(HOLES, [(0,), (0, 2)], [[(0, 0), (1, 0)], [(1, 1)]])
        self.assertEqual(patches(drawing), [((0, 0), (1, 0), 1)])
        self.assertIs(is_fewest(drawing), False)
        self.assertEqual(patches(drawing=Drawing(TORUS, [], [[], []])), [])
        self.assertIs(is_fewest(drawing=Drawing(TORUS, [], [[], []])), True)

    def test_of_all_drawings(self):
        chance = chance_of(100)
        cases = [(TORUS, [(0, 2), (0, 3)]), (HOLES, [(0, 3), (0, 2)]), (TORUS, [(0, 0, 2), (0,)])]
        cases += [(chance_skin(chance, bands), None) for bands in (2, 2, 3, 4, 5, 6) for _ in range(3)]
        for skin, rounds in cases:
            for drawing in all_drawings(skin, rounds or chance_unlike(chance, skin, 2, 3)):
                self.check_drawing(drawing)

    def test_of_some_drawings(self):
        chance = chance_of(101)
        for bands in (2, 2, 2, 3, 3, 4, 5, 6):
            for _ in range(12):
                skin = chance_skin(chance, bands)
                drawing = chance_drawing(chance, skin, chance_unlike(chance, skin, 4, 8))
                self.check_drawing(drawing)
                self.assertEqual(patches(best_drawing(skin, drawing.rounds)), [])

    def test_linked_exactly_if_they_cross_oddly(self):
        chance = chance_of(102)
        for bands in (2, 2, 3, 4, 5, 6):
            for _ in range(8):
                skin = chance_skin(chance, bands)
                drawing = chance_drawing(chance, skin, chance_unlike(chance, skin, 3, 7))
                for lines, way, linked in pairs_of_lines(drawing):
                    self.assertIs(len(crossings_along(drawing, lines, way)) % 2 == 1, linked)

    def test_long_patches(self):
        chance = chance_of(103)
        for _ in range(3):
            for rounds in ([(0,) * 12 + (2,), (0,) * 13 + (2,)], [(0,) + (0, 2) * 6, (0, 2) * 7 + (2,)]):
                self.check_drawing(chance_drawing(chance, TORUS, rounds))

    def test_errors_in_sequence(self):
        chance = chance_of(104)
        for act in (patches, is_fewest):
            for thing in ODD_VALUES + NO_SKINS:
                check_error(self, BadDrawing, ("part", None), act, thing)
            for skin, rounds in NOT_DRAWN_ONCE:
                check_error(self, BadDrawing, ("part", "rounds"), act, chance_drawing(chance, skin, rounds))


if __name__ == "__main__":
    unittest.main()
