"""Promises [3], [20]: the stretches of two lines, and whether they are linked."""

import unittest

from tautrounds.errors import BadRound, BadSkin, BadStrand
from tautrounds.lines import stretch
from tautrounds.rounds import along, gone, root_of, turned_about
from tests.helpers import (
    HOLES, NO_NUMBERS, NO_SKINS, RING, TORUS, all_rounds, chance_of, chance_round, chance_skin, check_error,
)
from tests.test_rounds import NO_ROUNDS


def ray(loop, place, way, size):
    """The ends by which a line leaves the discs, from the strand at place on, read one way or the other."""
    letters = [loop[(place + way * step) % len(loop)] for step in range(size)]
    return letters if way == 1 else [letter ^ 1 for letter in letters]


def shared(one, other):
    size = 0
    while size < len(one) and one[size] == other[size]:
        size += 1
    return size


def turns_of(skin, letters):
    """Told so, ways from one disc of the tree ascend as they stand round it: what is flat keeps its direction."""
    places, many = skin.places, len(skin.row)
    first = [places[letters[0]]]
    return first + [(places[leave] - places[came ^ 1]) % many for came, leave in zip(letters, letters[1:])]


def stretch_by_ends(skin, one, place, other, spot):
    """The stretch, told by how the four far ends of both lines stand round the tree."""
    way = 1 if one[place] == other[spot] else -1
    size = 2 * (len(one) + len(other))
    on, off = ray(one, place, 1, size), ray(other, spot, way, size)
    back, back_off = ray(one, place - 1, -1, size), ray(other, spot - way, -way, size)
    if shared(on, off) == size:
        return None
    ends = [(turns_of(skin, on), 0), (turns_of(skin, back), 0), (turns_of(skin, off), 1), (turns_of(skin, back_off), 1)]
    lines = [line for _, line in sorted(ends)]
    return shared(back, back_off), shared(back, back_off) + shared(on, off), lines[0] == lines[2]


def strands_together(one, other):
    return [
        (place, spot)
        for place in range(len(one))
        for spot in range(len(other))
        if one[place] // 2 == other[spot] // 2
    ]


class StretchTest(unittest.TestCase):
    def test_by_hand(self):
        self.assertEqual(stretch(TORUS, (0,), 0, (0, 2), 0), (0, 1, True))
        self.assertEqual(stretch(TORUS, (0, 0, 2), 1, (0, 0, 3), 1), (1, 2, True))
        told = stretch(skin=TORUS, one=(0, 0, 2), place=0, other=(0, 0, 3), spot=0)
        self.assertEqual(told, (0, 2, True))
        self.assertEqual([type(part) for part in told], [int, int, bool])
        self.assertIsNone(stretch(TORUS, (0, 2), 0, (1, 3), 0))
        self.assertIsNone(stretch(RING, (0,) * 40, 17, (1, 1), 1))
        self.assertIsNone(stretch(TORUS, (0, 0), 0, (0, 0), 1))

    def test_by_far_ends(self):
        chance = chance_of(50)
        for bands in (1, 2, 2, 2, 3, 3, 4, 5, 6):
            for _ in range(25):
                skin = chance_skin(chance, bands)
                one, other = chance_round(chance, skin, 12), chance_round(chance, skin, 12)
                for place, spot in strands_together(one, other):
                    wanted = stretch_by_ends(skin, one, place, other, spot)
                    self.assertEqual(stretch(skin, one, place, other, spot), wanted)

    def test_of_all_few_rounds(self):
        for skin in (TORUS, HOLES):
            loops = all_rounds(skin, 4)
            for one in loops:
                for other in loops:
                    for place, spot in strands_together(one, other):
                        told = stretch(skin, one, place, other, spot)
                        self.assertEqual(told, stretch_by_ends(skin, one, place, other, spot))

    def test_long_stretches(self):
        one, other = (0,) * 39 + (2,), (0,) * 38 + (2,)
        self.assertEqual(stretch(TORUS, one, 0, other, 0)[:2], (39, 77))
        self.assertEqual(stretch(TORUS, one, 1, other, 0)[:2], (0, 77))
        self.assertEqual(stretch(TORUS, (0,) * 40, 7, other, 5)[:2], (5, 38))
        one, other = (0, 0, 2, 0, 2) * 8, (0, 2) * 20
        for place, spot in strands_together(one, other):
            told = stretch(TORUS, one, place, other, spot)
            self.assertEqual(told, stretch_by_ends(TORUS, one, place, other, spot))

    def test_facts(self):
        chance = chance_of(51)
        for bands in (2, 2, 3, 4, 5, 6):
            for _ in range(25):
                skin = chance_skin(chance, bands)
                one, other = chance_round(chance, skin, 8), chance_round(chance, skin, 8)
                for place, spot in strands_together(one, other):
                    self.check_facts(skin, one, place, other, spot)

    def check_facts(self, skin, one, place, other, spot):
        told = stretch(skin, one, place, other, spot)
        if told is None:
            self.assertTrue(along(skin, one, other))
            self.assertIsNone(stretch(skin, other, spot, one, place))
            return
        begin, length, linked = told
        self.assertLess(length, len(root_of(skin, one)[0]) + len(root_of(skin, other)[0]))
        self.assertEqual(stretch(skin, other, spot, one, place)[1:], (length, linked))
        back = turned_about(skin, other)
        letters = tuple(letter ^ 1 for letter in other[::-1])
        turn = next(at for at in range(len(other)) if letters[at:] + letters[:at] == back)
        spot_back = (len(other) - 1 - spot - turn) % len(other)
        self.assertEqual(stretch(skin, one, place, back, spot_back), told)
        if len(one) <= 4:
            self.assertEqual(stretch(skin, gone(skin, one, 3), place + len(one), other, spot), told)

    def test_errors_in_sequence(self):
        for skin in NO_SKINS:
            check_error(self, BadSkin, ("part", None), stretch, skin, None, None, None, None)
        for thing in NO_ROUNDS:
            check_error(self, BadRound, None, stretch, TORUS, thing, 9, (0,), 9)
            check_error(self, BadRound, None, stretch, TORUS, (0,), None, thing, None)
        for number in NO_NUMBERS + [-1, 2]:
            check_error(self, BadStrand, None, stretch, TORUS, (0, 2), number, (0, 2), 0)
            check_error(self, BadStrand, None, stretch, TORUS, (0, 2), 0, (0, 2), number)
        check_error(self, BadStrand, None, stretch, TORUS, (0, 2), 0, (0, 2), 1)
        check_error(self, BadStrand, None, stretch, TORUS, (0, 2), False, (0, 2), False)


if __name__ == "__main__":
    unittest.main()
