"""Promises [3], [11]: words, and what is left of them."""

import unittest

from tautrounds.errors import BadSkin, BadWord
from tautrounds.words import free, is_word, undone
from tests.helpers import (
    NO_SKINS, ODD_VALUES, RING, TORUS, Counterfeit, chance_of, chance_skin, chance_word, check_error,
)

NO_WORDS = ODD_VALUES + [
    [], [0], [0, 2], (4,), (-1,), (True,), (0, False), (0, 1.0), ("0",), ((0,),), (None,), (0,) * 201, "01",
    (0, Counterfeit()), range(2),
]


def taken_out_somehow(chance, word):
    """What is left when pairs are taken out in a sequence of chance."""
    word = list(word)
    while True:
        places = [at for at in range(len(word) - 1) if word[at] == word[at + 1] ^ 1]
        if not places:
            return tuple(word)
        at = chance.choice(places)
        word = word[:at] + word[at + 2:]


class WordsTest(unittest.TestCase):
    def test_is_word(self):
        for word in [(), (0,), (3, 2, 1, 0), (0, 1) * 100, (2,) * 200]:
            self.assertIs(is_word(TORUS, word), True)
        for thing in NO_WORDS:
            self.assertIs(is_word(TORUS, thing), False)
        self.assertIs(is_word(skin=RING, thing=(2,)), False)
        self.assertIs(is_word(RING, (1, 0)), True)

    def test_bad_words(self):
        for thing in NO_WORDS:
            check_error(self, BadWord, None, free, TORUS, thing)
            check_error(self, BadWord, None, undone, TORUS, thing)

    def test_no_skin(self):
        for skin in NO_SKINS:
            for act in (is_word, free, undone):
                check_error(self, BadSkin, ("part", None), act, skin, "no word")

    def test_by_hand(self):
        self.assertEqual(free(TORUS, ()), ())
        self.assertEqual(free(TORUS, (0, 1)), ())
        self.assertEqual(free(TORUS, (0, 2, 3, 1, 2)), (2,))
        self.assertEqual(free(TORUS, (0, 2, 1)), (0, 2, 1))
        self.assertEqual(free(skin=TORUS, word=(1, 0) * 100), ())
        self.assertEqual(undone(TORUS, ()), ())
        self.assertEqual(undone(skin=TORUS, word=(0, 2, 2, 1)), (0, 3, 3, 1))

    def test_free_in_any_sequence(self):
        chance = chance_of(20)
        for _ in range(300):
            skin = chance_skin(chance, chance.randint(1, 6))
            word = chance_word(chance, skin, chance.randint(0, 200))
            self.assertEqual(free(skin, word), taken_out_somehow(chance, word))

    def test_facts(self):
        chance = chance_of(21)
        for _ in range(200):
            skin = chance_skin(chance, chance.randint(1, 6))
            one = chance_word(chance, skin, chance.randint(0, 100))
            other = chance_word(chance, skin, chance.randint(0, 100))
            self.assertEqual(free(skin, one + undone(skin, one)), ())
            self.assertEqual(free(skin, one + other), free(skin, free(skin, one) + free(skin, other)))
            self.assertEqual(undone(skin, undone(skin, one)), one)
            self.assertEqual(undone(skin, one + other), undone(skin, other) + undone(skin, one))


if __name__ == "__main__":
    unittest.main()
