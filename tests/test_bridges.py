"""Promise k78, point [90]: bridges, told by their plain triples."""

import unittest

from tautrounds.bridges import bridge_of, is_bridge, rims_at
from tautrounds.errors import BadBridge, BadNumber, BadSkin, BadWord
from tautrounds.skins import Skin, rims
from tautrounds.words import cut_free, gone_back
from tests.helpers import (
    HOLES, NO_NUMBERS, NO_SKINS, ODD_VALUES, RING, TORUS, Counterfeit, chance_bridge, chance_of, chance_skin,
    chance_word, check_error,
)


def moves(skin, triple):
    """The triples to which one is led at once: along the rims at both ends, and turned about."""
    start, word, end = triple
    many = 2 * skin.bands
    told = [(end, gone_back(word), start)]
    k = skin.row[start]
    told.append(((skin.row.index(k ^ 1) + 1) % many, cut_free((k ^ 1,) + word), end))
    k = skin.row[start - 1]
    told.append((skin.row.index(k ^ 1), cut_free((k ^ 1,) + word), end))
    return told


def all_led(skin, triple, most):
    """All triples to which one is led by moves that never make words of more than so many letters."""
    start, word, end = triple
    found = {(start, cut_free(word), end)}
    left = list(found)
    while left:
        for other in moves(skin, left.pop()):
            if len(other[1]) <= most and other not in found:
                found.add(other)
                left.append(other)
    return found


class BridgesTest(unittest.TestCase):
    def test_by_hand(self):
        self.assertEqual(bridge_of(TORUS, 2, (), 3), (0, (), 1))
        self.assertEqual(bridge_of(TORUS, 1, (), 2), (0, (), 3))
        self.assertEqual(bridge_of(TORUS, 1, (0, 2), 1), (1, (), 3))
        self.assertEqual(bridge_of(TORUS, 2, (0,), 0), (0, (1,), 2))
        for gap in range(4):
            self.assertIsNone(bridge_of(TORUS, gap, (), gap))

    def test_counted_by_moves(self):
        """The least of those with the fewest letters among all to which a triple is led, found by going along moves."""
        chance = chance_of(1)
        none = 0
        for _ in range(500):
            skin = chance_skin(chance, chance.randint(2, 4))
            many = 2 * skin.bands
            word = chance_word(chance, skin, chance.randint(0, 5))
            triple = (chance.randrange(many), word, chance.randrange(many))
            found = all_led(skin, triple, len(cut_free(word)) + 2)
            told = bridge_of(skin, *triple)
            fewest = min(len(other[1]) for other in found)
            least = [other for other in found if len(other[1]) == fewest]
            if any(start == end and not letters for start, letters, end in found):
                none += 1
                self.assertIsNone(told)
                continue
            self.assertEqual(told, min(least))
            neighbours = fewest == 0 and (told[2] - told[0]) % many in (1, many - 1)
            self.assertEqual(len(least), 4 if neighbours else 2)
            for other in least:
                self.assertEqual(bridge_of(skin, *other), told)
            self.assertTrue(is_bridge(skin, told))
            self.assertEqual([is_bridge(skin, other) for other in found].count(True), 1)
        self.assertGreater(none, 3)

    def test_along_rims_there_is_none(self):
        chance = chance_of(2)
        for _ in range(60):
            skin = chance_skin(chance, chance.randint(2, 6))
            rim = chance.choice(rims(skin))
            at, many = chance.randrange(len(rim)), chance.randint(0, 30)
            letters = tuple(rim[(at + step) % len(rim)] for step in range(many))
            end = skin.row.index(rim[(at + many) % len(rim)])
            self.assertIsNone(bridge_of(skin, skin.row.index(rim[at]), letters, end))
            self.assertIsNone(bridge_of(skin, end, gone_back(letters), skin.row.index(rim[at])))

    def test_long_words(self):
        chance = chance_of(3)
        for _ in range(40):
            skin = chance_skin(chance, 6)
            word = chance_word(chance, skin, 200)
            told = bridge_of(skin, chance.randrange(12), word, chance.randrange(12))
            self.assertGreater(len(told[1]), 40)
            self.assertIs(is_bridge(skin, told), False)
            self.assertEqual(bridge_of(skin, *told), told)
            short = chance_bridge(chance, skin, 40)
            self.assertIs(is_bridge(skin, short), True)
        self.assertIs(is_bridge(TORUS, (0, (2,) * 40, 2)), bridge_of(TORUS, 0, (2,) * 40, 2) == (0, (2,) * 40, 2))

    def test_rims_at(self):
        chance = chance_of(4)
        for _ in range(100):
            skin = chance_skin(chance, chance.randint(2, 6))
            bridge = chance_bridge(chance, skin, 6)
            letters = [skin.row[bridge[0]], skin.row[bridge[2]]]
            wanted = sorted(at for letter in letters for at, rim in enumerate(rims(skin)) if letter in rim)
            self.assertEqual(rims_at(skin, bridge), tuple(wanted))
        self.assertEqual(rims_at(HOLES, (0, (), 1)), (0, 1))
        self.assertEqual(rims_at(HOLES, (0, (), 2)), (0, 0))

    def test_of_any_value(self):
        bad = ODD_VALUES + [(2, (), 3), (0, (), 0), [0, (), 1], (0, [], 1), (0, (), True), (False, (), 1), (0, (), 4),
                            (0, (), 1, 0), (0, ()), (0, (0, 1), 1), (0, (True,), 2), (0.0, (), 1), (1, (0, 2), 1),
                            (0, (4,), 2), Counterfeit(), (0, (), Counterfeit()), (-4, (), 1)]
        for thing in bad:
            self.assertIs(is_bridge(TORUS, thing), False, thing)
            check_error(self, BadBridge, None, rims_at, TORUS, thing)
        self.assertIs(is_bridge(TORUS, (0, (), 1)), True)

    def test_refused(self):
        for skin in NO_SKINS:
            check_error(self, BadSkin, ("part", None), bridge_of, skin, None, None, None)
            check_error(self, BadSkin, ("part", None), is_bridge, skin, None)
            check_error(self, BadSkin, ("part", None), rims_at, skin, None)
        check_error(self, BadSkin, ("part", "bands"), bridge_of, RING, None, None, None)
        check_error(self, BadSkin, ("part", "bands"), is_bridge, RING, None)
        check_error(self, BadSkin, ("part", "bands"), rims_at, RING, None)
        for number in NO_NUMBERS + [-1, 4]:
            if type(number) is not int or not 0 <= number < 4:
                check_error(self, BadNumber, ("part", "start"), bridge_of, TORUS, number, None, None)
                check_error(self, BadNumber, ("part", "end"), bridge_of, TORUS, 0, (), number)
        for word in ODD_VALUES + [[0], (4,), (0,) * 201]:
            if word != ():
                check_error(self, BadWord, None, bridge_of, TORUS, 0, word, None)
        self.assertEqual(bridge_of(skin=TORUS, start=1, word=(0, 2), end=1), (1, (), 3))
        self.assertEqual(rims_at(skin=HOLES, bridge=(0, (), 1)), (0, 1))
        self.assertIs(is_bridge(skin=Skin((0, 1, 2, 3)), thing=(0, (), 1)), True)


if __name__ == "__main__":
    unittest.main()
