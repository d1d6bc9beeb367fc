"""Promises [3], [10]: skins, their rims, and their other names."""

import unittest
from itertools import permutations, product

from tautrounds.errors import BadNumber, BadSkin
from tautrounds.rounds import is_round, root_of, round_of, turned_about
from tautrounds.skins import Skin, genus, least_skin, mirrored, next_end, renamed, rims
from tests.helpers import (
    HOLES, NO_NUMBERS, NO_SKINS, ODD_VALUES, RING, TORUS, all_rows, chance_of, chance_renaming, chance_skin,
    check_error,
)


def some_skins():
    """All skins with at most three bands, and some with four to six."""
    chance = chance_of(10)
    few = [Skin(row) for bands in (1, 2, 3) for row in all_rows(bands)]
    return few + [chance_skin(chance, bands) for bands in (4, 5, 6) for _ in range(40)]


def all_renamings(bands):
    for names in permutations(range(bands)):
        for turns in product((0, 1), repeat=bands):
            yield [end for name, turn in zip(names, turns) for end in (2 * name + turn, 2 * name + 1 - turn)]


class SkinTest(unittest.TestCase):
    def test_row_begins_with_0(self):
        skin = Skin([3, 0, 2, 1])
        self.assertEqual((skin.row, skin.bands), ((0, 2, 1, 3), 2))
        self.assertIs(type(skin.row), tuple)
        self.assertEqual(Skin((1, 0)).row, (0, 1))
        self.assertEqual(Skin(row=list(range(11, -1, -1))).bands, 6)

    def test_equal(self):
        self.assertEqual(Skin((2, 1, 3, 0)), TORUS)
        self.assertTrue(Skin([0, 1]) == Skin((1, 0)))
        self.assertFalse(TORUS != Skin([1, 3, 0, 2]))
        self.assertNotEqual(TORUS, HOLES)
        for other in [(0, 2, 1, 3), None, 0, "skin"]:
            self.assertFalse(TORUS == other)
            self.assertTrue(TORUS != other)

    def test_what_is_handed_in_stays(self):
        row = [2, 3, 0, 1]
        skin = Skin(row)
        self.assertEqual(row, [2, 3, 0, 1])
        row[0] = 9
        self.assertEqual(skin.row, (0, 1, 2, 3))

    def test_bad_rows(self):
        bad = ODD_VALUES + [
            [], (), [0], [0, 1, 2], [0, 0], [1, 2], [0, -1], [0, 1, 2, 4], [False, True], [0, True], [0, 1.0],
            [0, "1"], "01", {0: 1, 1: 0}, range(2), [0, [1]], [0, None], list(range(13)), list(range(14)),
            iter([0, 1]), Skin((0, 1)), [0, 1, 2, 2], [(0, 1)],
        ]
        for row in bad:
            check_error(self, BadSkin, ("part", "row"), Skin, row)

    def test_no_skin(self):
        for thing in NO_SKINS:
            for act in (rims, genus, mirrored, least_skin):
                check_error(self, BadSkin, ("part", None), act, thing)
            check_error(self, BadSkin, ("part", None), next_end, thing, "no end")
            check_error(self, BadSkin, ("part", None), renamed, thing, "no letters")


class NextEndTest(unittest.TestCase):
    def test_behind_each(self):
        for skin in some_skins():
            for at, end in enumerate(skin.row):
                self.assertEqual(next_end(skin, end), skin.row[(at + 1) % len(skin.row)])
        self.assertEqual(next_end(skin=TORUS, end=3), 0)

    def test_no_end(self):
        for end in NO_NUMBERS + [-1, 4, 10 ** 30]:
            check_error(self, BadNumber, ("part", "end"), next_end, TORUS, end)
        check_error(self, BadNumber, ("part", "end"), next_end, RING, 2)


class RimsTest(unittest.TestCase):
    def test_examples(self):
        self.assertEqual((rims(RING), genus(RING)), ([(0,), (1,)], 0))
        self.assertEqual((rims(TORUS), genus(skin=TORUS)), ([(0, 3, 1, 2)], 1))
        self.assertEqual((rims(skin=HOLES), genus(HOLES)), ([(0, 2), (1,), (3,)], 0))
        self.assertEqual(turned_about(TORUS, (0, 3, 1, 2)), (0, 2, 1, 3))
        self.assertEqual(rims(Skin((0, 3, 1, 2))), [(0, 2, 1, 3)])

    def test_facts(self):
        for skin in some_skins():
            found = rims(skin)
            self.assertEqual(sorted(end for rim in found for end in rim), list(range(2 * skin.bands)))
            self.assertEqual(found, sorted(found))
            for rim in found:
                self.assertTrue(is_round(skin, rim))
                self.assertEqual(root_of(skin, rim), (rim, 1))
                for at, letter in enumerate(rim):
                    self.assertEqual(rim[(at + 1) % len(rim)], next_end(skin, letter ^ 1))
            handles = genus(skin)
            self.assertIs(type(handles), int)
            self.assertGreaterEqual(handles, 0)
            self.assertEqual(2 * handles, skin.bands + 1 - len(found))

    def test_new_each_time(self):
        found = rims(TORUS)
        found.append(None)
        self.assertEqual(rims(TORUS), [(0, 3, 1, 2)])


class RenamedTest(unittest.TestCase):
    def test_mirrored_turns_rims_about(self):
        for skin in some_skins():
            glass = mirrored(skin)
            self.assertEqual(glass.row, (0,) + skin.row[:0:-1])
            self.assertEqual(mirrored(glass), skin)
            self.assertEqual(rims(glass), sorted(turned_about(skin, rim) for rim in rims(skin)))

    def test_renamed_has_renamed_rims(self):
        chance = chance_of(11)
        for skin in some_skins():
            letters = chance_renaming(chance, skin.bands)
            other = renamed(skin, tuple(letters))
            self.assertEqual(other, Skin([letters[end] for end in skin.row]))
            wanted = [round_of(other, tuple(letters[end] for end in rim)) for rim in rims(skin)]
            self.assertEqual(rims(other), sorted(wanted))
            self.assertEqual(least_skin(other), least_skin(skin))

    def test_bad_letters(self):
        bad = ODD_VALUES + [
            [], [0, 1], [0, 1, 2], [0, 1, 2, 3, 4, 5], [0, 2, 1, 3], [0, 1, 2, 2], [1, 2, 3, 4], [0, 1, 2, True],
            [False, True, 2, 3], [0, 1, 2, 3.0], [0, 1, -2, -1], "0123", [[0, 1], [2, 3]], [0, 1, None, 3],
        ]
        for letters in bad:
            check_error(self, BadNumber, ("part", "letters"), renamed, TORUS, letters)
        self.assertEqual(renamed(skin=TORUS, letters=[1, 0, 2, 3]), Skin((1, 2, 0, 3)))

    def test_least_of_all_renamed(self):
        chance = chance_of(12)
        skins = [Skin(row) for bands in (1, 2, 3) for row in all_rows(bands)]
        skins += [chance_skin(chance, 4) for _ in range(12)]
        for skin in skins:
            rows = [renamed(skin, letters).row for letters in all_renamings(skin.bands)]
            self.assertEqual(least_skin(skin).row, min(rows))
        self.assertEqual(least_skin(skin=Skin((0, 2, 3, 1))).row, (0, 1, 2, 3))

    def test_how_many_least_skins(self):
        # Sequences of pairs of ends round a disc, turned ones taken for one.
        for bands, many in ((1, 1), (2, 2), (3, 5), (4, 18)):
            least = {least_skin(Skin(row)).row for row in paired_rows(2 * bands)}
            self.assertEqual(len(least), many)


def paired_rows(many):
    """All rows in which bands get their names, and ends theirs, as they are met first."""
    def rest(left, names):
        if not left:
            yield tuple(names[place] for place in range(many))
            return
        for place in left[1:]:
            others = [other for other in left[1:] if other != place]
            yield from rest(others, {**names, left[0]: len(names), place: len(names) + 1})
    return rest(list(range(many)), {})


if __name__ == "__main__":
    unittest.main()
