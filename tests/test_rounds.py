"""Promises [3], [4], [12]: rounds, their roots, and which of them go along one another."""

import unittest
from itertools import product

from tautrounds.errors import BadNumber, BadRound, BadSkin, BadWord
from tautrounds.rounds import along, gone, is_round, root_of, round_of, turned_about
from tautrounds.skins import Skin, rims
from tautrounds.words import undone
from tests.helpers import (
    HOLES, NO_NUMBERS, NO_SKINS, ODD_VALUES, RING, TORUS, Counterfeit, all_rounds, chance_of, chance_round,
    chance_skin, chance_word, check_error,
)

NO_ROUNDS = ODD_VALUES + [
    (), [], [0], [0, 2], (4,), (-1,), (True,), (False,), (0, 1), (0, 2, 1), (2, 0), (0, 2, 0), (1, 0, 0), (0,) * 41,
    (0.0,), ("0",), (0, 2, True), (0, Counterfeit()), ((0,),), (0, 2, 3), "0",
]


def classes_by_moves(skin, most):
    """For each word of at most so many letters the least of all to which turns, and pairs put in or out, lead it."""
    words = [word for size in range(most + 1) for word in product(range(2 * skin.bands), repeat=size)]
    leader = {word: word for word in words}

    def lead(word):
        while leader[word] != word:
            word = leader[word]
        return word

    for word in words:
        moved = [word[1:] + word[:1]]
        moved += [word[:at] + word[at + 2:] for at in range(len(word) - 1) if word[at] == word[at + 1] ^ 1]
        for other in moved:
            ends = sorted([lead(word), lead(other)])
            leader[ends[1]] = ends[0]
    return {word: lead(word) for word in words}


class RoundOfTest(unittest.TestCase):
    def test_by_hand(self):
        self.assertEqual(round_of(TORUS, (1, 2, 0, 2, 0)), (0, 2, 2))
        self.assertEqual(round_of(TORUS, ()), ())
        self.assertEqual(round_of(TORUS, (0, 1)), ())
        self.assertEqual(round_of(TORUS, (3, 0, 1, 2)), ())
        self.assertEqual(round_of(TORUS, (3, 1, 2)), (1,))
        self.assertEqual(round_of(skin=TORUS, word=(2,) * 200), (2,) * 200)

    def test_the_same_exactly_if_led_to_one_another(self):
        for skin, most in ((RING, 8), (TORUS, 6), (Skin((0, 1, 2, 3, 4, 5)), 4)):
            leaders = classes_by_moves(skin, most)
            rounds = {}
            for word, leader in leaders.items():
                rounds.setdefault(round_of(skin, word), []).append(leader)
            self.assertEqual(len(rounds), len(set(leaders.values())))
            for found in rounds.values():
                self.assertEqual(len(set(found)), 1)

    def test_of_long_words(self):
        chance = chance_of(30)
        for _ in range(200):
            skin = chance_skin(chance, chance.randint(1, 6))
            front = chance_word(chance, skin, chance.randint(0, 60))
            word = chance_word(chance, skin, chance.randint(0, 40))
            loop = round_of(skin, word)
            self.assertEqual(round_of(skin, front + word + undone(skin, front)), loop)
            self.assertEqual(round_of(skin, loop), loop)
            at = chance.randint(0, len(word))
            self.assertEqual(round_of(skin, word[at:] + word[:at]), loop)

    def test_bad_words(self):
        for thing in ODD_VALUES + [[0], (4,), (True,), (0,) * 201]:
            check_error(self, BadWord, None, round_of, TORUS, thing)
        for skin in NO_SKINS:
            check_error(self, BadSkin, ("part", None), round_of, skin, None)


class IsRoundTest(unittest.TestCase):
    def test_rounds(self):
        for loop in [(0,), (0, 0), (0, 2), (0, 3, 1, 2), (0,) * 40, (0, 2) * 20, (3,)]:
            self.assertIs(is_round(TORUS, loop), True)
        self.assertIs(is_round(skin=RING, thing=(2,)), False)

    def test_others(self):
        for thing in NO_ROUNDS:
            self.assertIs(is_round(TORUS, thing), False)

    def test_of_few_letters(self):
        for word in product(range(4), repeat=4):
            self.assertIs(is_round(HOLES, word), round_of(HOLES, word) == word)

    def test_bad_rounds(self):
        for thing in NO_ROUNDS:
            check_error(self, BadRound, None, turned_about, TORUS, thing)
            check_error(self, BadRound, None, gone, TORUS, thing, 0)
            check_error(self, BadRound, None, root_of, TORUS, thing)
            check_error(self, BadRound, None, along, TORUS, thing, (0,))
            check_error(self, BadRound, None, along, TORUS, (0,), thing)

    def test_no_skin(self):
        for skin in NO_SKINS:
            check_error(self, BadSkin, ("part", None), is_round, skin, None)
            check_error(self, BadSkin, ("part", None), turned_about, skin, None)
            check_error(self, BadSkin, ("part", None), gone, skin, None, None)
            check_error(self, BadSkin, ("part", None), root_of, skin, None)
            check_error(self, BadSkin, ("part", None), along, skin, None, None)


class TurnedAboutTest(unittest.TestCase):
    def test_never_the_same(self):
        for skin, most in ((RING, 6), (TORUS, 6), (Skin((0, 3, 1, 4, 2, 5)), 4)):
            for loop in all_rounds(skin, most):
                back = turned_about(skin, loop)
                self.assertNotEqual(back, loop)
                self.assertEqual(turned_about(skin, back), loop)
                self.assertEqual(back, round_of(skin, undone(skin, loop)))

    def test_by_hand(self):
        self.assertEqual(turned_about(TORUS, (0, 2, 2)), (1, 3, 3))
        self.assertEqual(turned_about(skin=TORUS, loop=(0, 3, 1, 2)), (0, 2, 1, 3))


class RootTest(unittest.TestCase):
    def test_by_hand(self):
        self.assertEqual(root_of(TORUS, (0, 2, 0, 2)), ((0, 2), 2))
        self.assertEqual(root_of(TORUS, (0, 0, 0)), ((0,), 3))
        self.assertEqual(root_of(TORUS, (0, 2, 0, 2, 2)), ((0, 2, 0, 2, 2), 1))
        self.assertEqual(root_of(skin=RING, loop=(1,) * 40), ((1,), 40))

    def test_gone(self):
        self.assertEqual(gone(TORUS, (0, 2), 1), (0, 2))
        self.assertEqual(gone(TORUS, (0, 2, 2), 3), (0, 2, 2, 0, 2, 2, 0, 2, 2))
        self.assertEqual(gone(skin=RING, loop=(0,) * 40, times=9), (0,) * 360)
        for times in NO_NUMBERS + [0, -1, 10, 10 ** 20]:
            if times is not True:
                check_error(self, BadNumber, ("part", "times"), gone, TORUS, (0,), times)
        check_error(self, BadNumber, ("part", "times"), gone, TORUS, (0,), True)

    def test_facts(self):
        chance = chance_of(31)
        for _ in range(300):
            skin = chance_skin(chance, chance.randint(1, 6))
            loop = chance_round(chance, skin, 8)
            root, times = root_of(skin, loop)
            self.assertEqual(root * times, loop)
            self.assertEqual(root_of(skin, root), (root, 1))
            back = turned_about(skin, loop)
            self.assertEqual(root_of(skin, back), (turned_about(skin, root), times))
            more = chance.randint(1, 40 // len(loop) if len(loop) > 4 else 9)
            self.assertEqual(round_of(skin, loop * more), gone(skin, loop, more))
            self.assertEqual(root_of(skin, gone(skin, loop, more)), (root, times * more))
            for rim in rims(skin):
                self.assertEqual(root_of(skin, rim), (rim, 1))


class AlongTest(unittest.TestCase):
    def test_by_hand(self):
        self.assertIs(along(TORUS, (0, 2), (1, 3)), True)
        self.assertIs(along(TORUS, (0, 2), (0, 3)), False)
        self.assertIs(along(skin=TORUS, one=(0, 0), other=(1, 1, 1)), True)
        self.assertIs(along(RING, (0,) * 40, (1,)), True)

    def test_of_all_few(self):
        for skin in (TORUS, Skin((0, 4, 1, 2, 3, 5))):
            loops = all_rounds(skin, 3)
            for one in loops:
                ways = [root_of(skin, one)[0], turned_about(skin, root_of(skin, one)[0])]
                for other in loops:
                    self.assertIs(along(skin, one, other), root_of(skin, other)[0] in ways)


if __name__ == "__main__":
    unittest.main()
