"""Promises [2] (a), (e), [3], [21]: linked pairs, and the crossings that they tell."""

import unittest

from tautrounds.drawings import crossed
from tautrounds.errors import BadRound, BadRounds, BadSkin
from tautrounds.lines import stretch
from tautrounds.linked import crossings, fewest, linked_pairs, own_crossings, own_pairs
from tautrounds.rounds import gone, root_of, round_of, turned_about
from tautrounds.skins import Skin, mirrored, renamed, rims
from tests.helpers import (
    HOLES, NO_SKINS, ODD_VALUES, RING, TORUS, all_drawings, all_rounds, chance_of, chance_renaming, chance_round,
    chance_rounds, chance_skin, check_error,
)
from tests.test_rounds import NO_ROUNDS


def check_rounds_errors(case, act, *rest):
    """That act, of a skin and a list of rounds, tells what is wrong with the list in the stated sequence."""
    for skin in NO_SKINS:
        check_error(case, BadSkin, ("part", None), act, skin, None, *rest)
    for thing in ODD_VALUES + [9, "rounds", [(0,)] * 9, [None] * 9, ((0,),) * 9, iter([(0,)])]:
        check_error(case, BadRounds, ("part", "list"), act, TORUS, thing, *rest)
    for thing in NO_ROUNDS:
        check_error(case, BadRounds, ("part", 0), act, TORUS, [thing, None], *rest)
        check_error(case, BadRounds, ("part", 2), act, TORUS, ((0,) * 40, (0,) * 40, thing), *rest)
        check_error(case, BadRounds, ("part", 7), act, TORUS, [(0,)] * 7 + [thing], *rest)
    for rounds in ([(0,) * 40, (2,) * 40, (0,)], [(0, 2) * 6] * 6 + [(0,) * 9]):
        check_error(case, BadRounds, ("part", "list"), act, TORUS, rounds, *rest)


def pairs_by_stretch(skin, one, other):
    """The linked pairs, from the document's words."""
    found = []
    for place in range(len(one)):
        for spot in range(len(other)):
            if one[place] // 2 == other[spot] // 2:
                told = stretch(skin, one, place, other, spot)
                if told is not None and told[0] == 0 and told[2]:
                    found.append((place, spot, told[1]))
            ends = [one[place] ^ 1, one[(place + 1) % len(one)], other[spot] ^ 1, other[(spot + 1) % len(other)]]
            owners = [ends.index(end) // 2 for end in skin.row if end in ends]
            if len(set(ends)) == 4 and owners[0] == owners[2]:
                found.append((place, spot, 0))
    return sorted(found)


class LinkedPairsTest(unittest.TestCase):
    def test_by_hand(self):
        self.assertEqual(linked_pairs(TORUS, (0,), (2,)), [(0, 0, 0)])
        self.assertEqual(linked_pairs(TORUS, (0,), (0, 2)), [(0, 0, 1)])
        self.assertEqual(crossings(TORUS, (0, 2), (0, 3)), 2)
        self.assertEqual(own_pairs(HOLES, (0, 3)), [(0, 1, 0)])
        self.assertEqual(own_pairs(skin=HOLES, loop=(0, 2)), [])
        self.assertEqual(linked_pairs(skin=RING, one=(0,) * 40, other=(1,)), [])

    def test_against_stretches(self):
        chance = chance_of(60)
        for bands in (2, 2, 3, 3, 4, 5, 6):
            for _ in range(25):
                skin = chance_skin(chance, bands)
                one, other = chance_rounds(chance, skin, 2, 10)
                self.assertEqual(linked_pairs(skin, one, other), pairs_by_stretch(skin, one, other))
                self.assertEqual(crossings(skin, one, other), len(pairs_by_stretch(skin, one, other)))
                self.check_own(skin, one)

    def check_own(self, skin, loop):
        """Each two of its own lines come twice in linked_pairs: own_pairs has the lesser triple of these two."""
        told = linked_pairs(skin, loop, loop)
        found = own_pairs(skin, loop)
        self.assertEqual(found, sorted(found))
        self.assertEqual(2 * len(found), len(told))
        self.assertEqual(own_crossings(skin, loop), len(found) + root_of(skin, loop)[1] - 1)
        others = []
        for place, spot, length in found:
            if length == 0 or loop[place] == loop[spot]:
                other = (spot, place, length)
            else:
                other = ((spot - length + 1) % len(loop), (place + length - 1) % len(loop), length)
            self.assertLess((place, spot, length), other)
            others.append(other)
        self.assertEqual(sorted(found + others), told)

    def test_long_rounds(self):
        one, other = (0,) * 39 + (2,), (0,) * 38 + (2, 2)
        self.assertEqual(linked_pairs(TORUS, one, other), pairs_by_stretch(TORUS, one, other))
        self.assertEqual(crossings(TORUS, (0,) * 40, (2,) * 40), 1600)
        self.check_own(TORUS, other)

    def test_errors_in_sequence(self):
        for skin in NO_SKINS:
            for act in (linked_pairs, crossings):
                check_error(self, BadSkin, ("part", None), act, skin, None, None)
            for act in (own_pairs, own_crossings):
                check_error(self, BadSkin, ("part", None), act, skin, None)
        for thing in NO_ROUNDS:
            for act in (linked_pairs, crossings):
                check_error(self, BadRound, None, act, TORUS, thing, (0,))
                check_error(self, BadRound, None, act, TORUS, (0,), thing)
            for act in (own_pairs, own_crossings):
                check_error(self, BadRound, None, act, TORUS, thing)


class CrossingsTest(unittest.TestCase):
    def test_powers(self):
        chance = chance_of(61)
        for bands in (1, 2, 2, 3, 4, 5, 6):
            for _ in range(10):
                skin = chance_skin(chance, bands)
                one = root_of(skin, chance_round(chance, skin, 7))[0]
                other = chance_round(chance, skin, 7)
                once, own = crossings(skin, one, other), own_crossings(skin, one)
                for a in (1, 2, 3, 5):
                    many = gone(skin, one, a)
                    self.assertEqual(own_crossings(skin, many), a * a * own + a - 1)
                    for b in (1, 2, 4):
                        self.assertEqual(crossings(skin, many, gone(skin, other, b)), a * b * once)
                        self.assertEqual(crossings(skin, many, gone(skin, one, b)), 2 * a * b * own)

    def test_the_same_turned_about_mirrored_renamed(self):
        chance = chance_of(62)
        for bands in (1, 2, 3, 4, 5, 6):
            for _ in range(12):
                skin = chance_skin(chance, bands)
                one, other = chance_rounds(chance, skin, 2, 9)
                many, own = crossings(skin, one, other), own_crossings(skin, one)
                self.assertEqual(crossings(skin, other, one), many)
                self.assertEqual(crossings(skin, turned_about(skin, one), other), many)
                self.assertEqual(crossings(skin, one, turned_about(skin, other)), many)
                self.assertEqual(own_crossings(skin, turned_about(skin, one)), own)
                self.assertEqual(crossings(mirrored(skin), one, other), many)
                self.assertEqual(own_crossings(mirrored(skin), one), own)
                letters = chance_renaming(chance, bands)
                named = renamed(skin, letters)
                new_one, new_other = [round_of(named, tuple(letters[x] for x in loop)) for loop in (one, other)]
                self.assertEqual(crossings(named, new_one, new_other), many)
                self.assertEqual(own_crossings(named, new_one), own)

    def test_rims_cross_nothing(self):
        chance = chance_of(63)
        for bands in (1, 2, 3, 4, 5, 6):
            for _ in range(8):
                skin = chance_skin(chance, bands)
                for rim in rims(skin):
                    self.assertEqual(own_crossings(skin, rim), 0)
                    self.assertEqual(crossings(skin, rim, chance_round(chance, skin, 9)), 0)


class FewestTest(unittest.TestCase):
    def test_sum_of_all(self):
        chance = chance_of(64)
        for _ in range(60):
            skin = chance_skin(chance, chance.randint(1, 6))
            rounds = chance_rounds(chance, skin, chance.randint(0, 8), 8)
            rounds += rounds[:8 - len(rounds)]
            many = sum(own_crossings(skin, loop) for loop in rounds)
            for at, one in enumerate(rounds):
                many += sum(crossings(skin, one, other) for other in rounds[at + 1:])
            self.assertEqual(fewest(skin, rounds), many)
            self.assertEqual(fewest(skin=skin, rounds=tuple(rounds)), many)

    def test_empty_and_full(self):
        self.assertEqual(fewest(TORUS, []), 0)
        self.assertEqual(fewest(TORUS, ()), 0)
        self.assertEqual(fewest(TORUS, [(0,) * 40, (2,) * 40]), 39 + 39 + 1600)
        self.assertEqual(fewest(RING, [(0,) * 10] * 8), 72)

    def test_no_drawing_has_fewer(self):
        """Over all drawings of small lists, of all together, of each two, and of each one."""
        cases = [
            (TORUS, [(0, 2), (0, 3)]), (TORUS, [(0,), (0, 0, 2)]), (TORUS, [(0, 2, 1, 2)]),
            (HOLES, [(0, 3), (0, 2)]), (HOLES, [(0, 3, 0, 3)]), (HOLES, [(0, 0, 3), (3,)]), (RING, [(0, 0), (1,)]),
            (RING, [(0, 0, 0), (1, 1)]), (TORUS, [(0,), (0,), (2,), (3,)]), (HOLES, [(0, 3), (1, 2)]), (TORUS, []),
            (Skin((0, 2, 4, 1, 3, 5)), [(0, 2, 4), (0, 3, 5), (1, 2, 5)]), (TORUS, [(0, 2, 0, 2), (1, 3)]),
            (Skin((0, 3, 1, 2)), [(0, 2, 2), (1, 3)]), (Skin((0, 4, 1, 2, 5, 3)), [(0, 4, 2, 5), (0, 2)]),
        ]
        chance = chance_of(65)
        for bands in (2, 3, 4, 5, 6):
            for _ in range(4):
                skin = chance_skin(chance, bands)
                cases.append((skin, chance_rounds(chance, skin, 2, 3)))
        for skin, rounds in cases:
            self.check_least(skin, rounds)

    def check_least(self, skin, rounds):
        found = [crossed(drawing) for drawing in all_drawings(skin, rounds)]
        self.assertEqual(min(len(pairs) for pairs in found), fewest(skin, rounds))
        for r, one in enumerate(rounds):
            for s, other in enumerate(rounds[:r + 1]):
                wanted = own_crossings(skin, one) if r == s else crossings(skin, one, other)
                many = [sum(1 for (a, _), (b, _) in pairs if sorted((a, b)) == [s, r]) for pairs in found]
                self.assertEqual(min(many), wanted)

    def test_errors_in_sequence(self):
        check_rounds_errors(self, fewest)


class AllRoundsTest(unittest.TestCase):
    def test_own_pairs_of_all_few(self):
        for skin in (TORUS, HOLES, Skin((0, 4, 2, 1, 3, 5))):
            for loop in all_rounds(skin, 4):
                LinkedPairsTest.check_own(self, skin, loop)


if __name__ == "__main__":
    unittest.main()
