"""Promises [2] (f), [34]: pieces, inner discs, rounds that fill, and free rounds."""

import unittest

from tautrounds.best import best_drawing
from tautrounds.drawings import Drawing, crossed_number
from tautrounds.errors import BadDrawing
from tautrounds.linked import pairs_of
from tautrounds.pieces import fills, free_round, inner_discs, pieces
from tautrounds.rounds import along, gone, root_of, rooted, round_of, turned_about
from tautrounds.simple import simple_rounds
from tautrounds.skins import Skin, mirrored, rims
from tests.helpers import (
    HOLES, NO_SKINS, ODD_VALUES, RING, TORUS, all_rounds, chance_drawing, chance_of, chance_round, chance_rounds,
    chance_skin, check_error,
)
from tests.test_linked import check_rounds_errors


def points_of(drawing):
    """All things round the disc's edge: ("gap", end), ("spot", end, at) between strands, ("point", strand, end)."""
    found = []
    for end in drawing.skin.row:
        row = drawing.rows[end // 2]
        row = row if end % 2 == 0 else row[::-1]
        found.append(("gap", end))
        for at, strand in enumerate(row):
            found += [("spot", end, at), ("point", strand, end)]
        found.append(("spot", end, len(row)))
    return found


def pieces_by_words(drawing):
    """From the document's words: spots of the edge that no chord parts are one, and so are those of one strip."""
    around = points_of(drawing)
    chords = []
    for r, loop in enumerate(drawing.rounds):
        for i, letter in enumerate(loop):
            j = (i + 1) % len(loop)
            ends = [around.index(("point", (r, i), letter ^ 1)), around.index(("point", (r, j), loop[j]))]
            chords.append(sorted(ends))
    sides = {
        thing: tuple(low < at < high for low, high in chords)
        for at, thing in enumerate(around) if thing[0] != "point"
    }
    lots = [{side} for side in set(sides.values())]
    strips = []
    for thing in sides:
        if thing[0] == "spot" and thing[1] % 2 == 0:
            _, end, at = thing
            strips.append((sides[thing], sides["spot", end + 1, len(drawing.rows[end // 2]) - at]))
    for one, other in strips:
        joined = [lot for lot in lots if one in lot or other in lot]
        lots = [lot for lot in lots if lot not in joined] + [set().union(*joined)]
    found = []
    for lot in lots:
        around_lot = {k for k, rim in enumerate(rims(drawing.skin)) for end in rim if sides["gap", end] in lot}
        found.append((len(lot) - len([one for one, _ in strips if one in lot]), tuple(sorted(around_lot))))
    return sorted(found)


class PiecesTest(unittest.TestCase):
    def test_by_hand(self):
        drawing = best_drawing(HOLES, [(0, 3)])
        self.assertEqual(pieces(drawing), [(0, (0,)), (0, (1,)), (0, (2,))])
        self.assertEqual(inner_discs(drawing), 0)
        self.assertEqual(pieces(best_drawing(HOLES, [])), [(-1, (0, 1, 2))])
        self.assertEqual(pieces(best_drawing(TORUS, [(0,)])), [(-1, (0,))])
        self.assertEqual(pieces(best_drawing(TORUS, [(0,), (2,)])), [(0, (0,))])
        self.assertEqual(inner_discs(best_drawing(TORUS, [(0,), (2,)])), 0)

    def test_patch_leaves_an_inner_disc(self):
        drawing = Drawing(HOLES, [(0,), (0, 2)], [[(0, 0), (1, 0)], [(1, 1)]])
        self.assertEqual(crossed_number(drawing), 2)
        self.assertEqual(pieces(drawing), pieces_by_words(drawing))
        # Two crossings, but what lies between them along the band is no inner disc: it comes to the disc's edge.
        self.assertEqual(inner_discs(drawing), 0)
        self.assertIn((1, ()), pieces(drawing))

    def test_three_chords_round_an_inner_disc(self):
        found = 0
        chance = chance_of(299)
        for _ in range(60):
            skin = chance_skin(chance, 3)
            drawing = best_drawing(skin, chance_rounds(chance, skin, 3, 5))
            found += inner_discs(drawing) > 0
        self.assertGreater(found, 5)

    def test_by_words_and_facts(self):
        chance = chance_of(300)
        for bands in (1, 2, 2, 3, 4, 5, 6):
            for _ in range(12):
                skin = chance_skin(chance, bands)
                rounds = chance_rounds(chance, skin, chance.randint(0, 4), 6)
                for drawing in (best_drawing(skin, rounds), chance_drawing(chance, skin, rounds)):
                    told = pieces(drawing)
                    self.assertEqual(told, pieces_by_words(drawing))
                    self.assertIs(type(told), list)
                    discs = inner_discs(drawing)
                    self.assertGreaterEqual(discs, 0)
                    numbers = sum(number for number, _ in told)
                    self.assertEqual(discs, 1 - bands + crossed_number(drawing) - numbers)
                    places = [place for _, around in told for place in around]
                    self.assertEqual(sorted(places), list(range(len(rims(skin)))))

    def test_new_lists_and_names(self):
        drawing = best_drawing(TORUS, [(0,)])
        told = pieces(drawing=drawing)
        told.append(None)
        self.assertEqual(pieces(drawing), told[:-1])
        self.assertEqual(inner_discs(drawing=drawing), 0)

    def test_errors(self):
        for thing in ODD_VALUES + NO_SKINS + [HOLES]:
            check_error(self, BadDrawing, ("part", None), pieces, thing)
            check_error(self, BadDrawing, ("part", None), inner_discs, thing)


class FillsTest(unittest.TestCase):
    def check(self, skin, rounds):
        filled, loop = fills(skin, rounds), free_round(skin, rounds)
        self.assertIs(filled, loop is None)
        if loop is not None:
            self.assertIs(type(loop), tuple)
            self.assertTrue(1 <= len(loop) <= 200)
            self.assertEqual(round_of(skin, loop), loop)
            around = rims(skin) + [turned_about(skin, rim) for rim in rims(skin)]
            self.assertNotIn(rooted(loop)[0], around)
            for other in rounds:
                self.assertEqual(pairs_of(skin, loop, other), [])
            self.assertEqual(free_round(skin, rounds), loop)
        return filled

    def test_by_hand(self):
        self.assertIs(self.check(HOLES, [(0, 3)]), True)
        self.assertIs(self.check(HOLES, []), False)
        self.assertIs(self.check(TORUS, [(0,)]), False)
        self.assertIs(self.check(TORUS, [(0,), (2,)]), True)
        self.assertIs(fills(skin=TORUS, rounds=((0,), (2,))), True)
        self.assertIs(free_round(skin=TORUS, rounds=((0,), (2,))), None)

    def test_ring(self):
        for rounds in ([], [(0,)], [(1, 1)], [(0,), (1,), (0, 0, 0)]):
            self.assertIs(self.check(RING, rounds), True)

    def test_rims_alone_fill_nothing(self):
        chance = chance_of(301)
        for bands in (2, 3, 4, 5, 6):
            for _ in range(8):
                skin = chance_skin(chance, bands)
                around = rims(skin) + [turned_about(skin, rim) for rim in rims(skin)]
                self.assertIs(self.check(skin, around[:5]), False)

    def test_free_exactly_if_not_filled(self):
        chance = chance_of(302)
        told = []
        for bands in (1, 2, 2, 2, 3, 3, 4, 5, 6):
            for _ in range(25):
                skin = chance_skin(chance, bands)
                rounds = chance_rounds(chance, skin, chance.randint(0, 5), chance.randint(1, 8))
                if rounds and chance.randrange(3) == 0:
                    loop = chance.choice(rounds)
                    rounds += [chance.choice([loop, turned_about(skin, loop), gone(skin, loop, 2)])]
                told.append(self.check(skin, rounds))
        self.assertTrue(50 < told.count(True) < len(told) - 50)

    def test_filled_crosses_all_short_rounds(self):
        chance = chance_of(303)
        for bands in (2, 2, 3):
            for _ in range(8):
                skin = chance_skin(chance, bands)
                rounds = chance_rounds(chance, skin, 3, 5)
                around = rims(skin)
                free = [
                    loop for loop in all_rounds(skin, 3)
                    if not any(along(skin, root_of(skin, loop)[0], rim) for rim in around)
                    and not any(pairs_of(skin, loop, other) for other in rounds)
                ]
                if free:
                    self.assertIs(fills(skin, rounds), False)

    def test_same_mirrored_and_for_powers(self):
        chance = chance_of(304)
        for _ in range(40):
            skin = chance_skin(chance, chance.randint(1, 5))
            rounds = chance_rounds(chance, skin, 3, 6)
            filled = fills(skin, rounds)
            self.assertIs(fills(mirrored(skin), [round_of(skin, loop) for loop in rounds]), filled)
            self.assertIs(fills(skin, [gone(skin, loop, 2) for loop in rounds]), filled)
            self.assertIs(fills(skin, [turned_about(skin, loop) for loop in rounds] + rounds), filled)

    def test_long_lists(self):
        chance = chance_of(305)
        for bands in (2, 3, 6):
            skin = chance_skin(chance, bands)
            rounds = []
            while sum(map(len, rounds)) < 70 and len(rounds) < 8:
                rounds.append(chance_round(chance, skin, 10))
            self.check(skin, rounds)
        self.check(Skin((0, 2, 4, 6, 8, 10, 1, 3, 5, 7, 9, 11)), [(0, 2) * 20, (4, 6) * 20])

    def test_one_simple_round(self):
        for skin in (TORUS, HOLES, Skin((0, 2, 1, 3, 4, 5))):
            for loop in simple_rounds(skin, 4):
                self.assertIs(self.check(skin, [loop]), False)

    def test_errors_in_sequence(self):
        check_rounds_errors(self, fills)
        check_rounds_errors(self, free_round)


if __name__ == "__main__":
    unittest.main()
