"""Promise [66]: texts of words, rounds and skins."""

import unittest

from tautrounds.errors import BadSkin, BadText, BadWord
from tautrounds.rounds import is_round
from tautrounds.skins import Skin
from tautrounds.wordtexts import read_round, read_skin, read_word, skin_text, word_text
from tests.helpers import (
    HOLES, NO_SKINS, ODD_VALUES, RING, TORUS, all_rows, chance_of, chance_round, chance_skin, chance_word, check_error,
)

SIGNS = "aAbBcCdDeEfF"
NO_STRINGS = [thing for thing in ODD_VALUES if type(thing) is not str] + [b"a", ["a"], ("a",), 97]
ODD_SIGNS = ["", " ", "\n", "g", "G", "0", "\0", "\u00e4", "\U0001f600", "aa", "a ", " a", "a\n", "ab\u0300", "ABg"]


def check_exact(case, read, text):
    """That a text is read, or refused by BadText; and then each of its beginnings is read, or refused by its length.

    Told is what was read, or the place.
    """
    try:
        return True, read(text)
    except BadText as told:
        at = told.at
        case.assertIs(type(at), int)
        case.assertTrue(0 <= at <= len(text))
        for many in range(at + 1):
            try:
                read(text[:many])
            except BadText as again:
                case.assertEqual(again.at, many, (text, at))
        return False, at


class WordTextTest(unittest.TestCase):
    def test_by_hand(self):
        self.assertEqual(word_text(TORUS, (0, 1, 2, 3)), "aAbB")
        self.assertEqual(word_text(skin=TORUS, word=()), "")
        self.assertEqual(skin_text(Skin((0, 2, 4, 6, 8, 10, 11, 9, 7, 5, 3, 1))), "abcdefFEDCBA")
        self.assertEqual(skin_text(skin=HOLES), "aAbB")
        self.assertEqual(read_word(TORUS, "baAB"), (2, 0, 1, 3))
        self.assertEqual(read_word(skin=TORUS, text=""), ())
        self.assertEqual(read_round(skin=TORUS, text="aab"), (0, 0, 2))
        self.assertEqual(read_skin(text="aBAb"), Skin((0, 3, 1, 2)))

    def test_there_and_back(self):
        chance = chance_of(410)
        for _ in range(80):
            skin = chance_skin(chance, chance.randint(1, 6))
            word, loop = chance_word(chance, skin, chance.randint(0, 12)), chance_round(chance, skin, 9)
            self.assertEqual(word_text(skin, word), "".join(SIGNS[letter] for letter in word))
            self.assertEqual(read_word(skin, word_text(skin, word)), word)
            self.assertEqual(read_round(skin, word_text(skin, loop)), loop)
            self.assertEqual(skin_text(skin), word_text(skin, skin.row))
            self.assertEqual(read_skin(skin_text(skin)), skin)
        for row in all_rows(2) + all_rows(1):
            self.assertEqual(read_skin(skin_text(Skin(row))).row, row)

    def test_bad_words(self):
        for skin in NO_SKINS:
            check_error(self, BadSkin, ("part", None), word_text, skin, None)
            check_error(self, BadSkin, ("part", None), skin_text, skin)
            check_error(self, BadSkin, ("part", None), read_word, skin, None)
            check_error(self, BadSkin, ("part", None), read_round, skin, None)
        for word in ODD_VALUES + [[0], (2,), (0,) * 201, (True,), "a"]:
            check_error(self, BadWord, None, word_text, RING, word)
        self.assertEqual(len(word_text(RING, (0,) * 200)), 200)

    def test_no_strings(self):
        for thing in NO_STRINGS:
            check_error(self, BadText, ("at", None), read_word, TORUS, thing)
            check_error(self, BadText, ("at", None), read_round, TORUS, thing)
            check_error(self, BadText, ("at", None), read_skin, thing)


class ReadTest(unittest.TestCase):
    def test_words(self):
        for text, at in (("g", 0), ("ag", 1), ("aAc", 2), ("aA ", 2), ("abAB\n", 4), (" ", 0), ("a\u00e4", 1)):
            check_error(self, BadText, ("at", at), read_word, TORUS, text)
        self.assertEqual(read_word(TORUS, "aA" * 100), (0, 1) * 100)
        check_error(self, BadText, ("at", 200), read_word, TORUS, "a" * 201)
        check_error(self, BadText, ("at", 200), read_word, TORUS, "a" * 200 + "g")
        check_error(self, BadText, ("at", 199), read_word, TORUS, "a" * 199 + "gg")

    def test_rounds(self):
        for text, at in (
            ("", 0), ("ba", 2), ("aA", 1), ("abA", 3), ("abB", 2), ("aag", 2), ("ag", 1), ("baA", 2), ("c", 0),
            ("bag", 2), ("abb ", 3), ("A\n", 1), ("abab", None), ("b", None), ("abAB", None), ("Ab", None),
        ):
            if at is None:
                self.assertTrue(is_round(TORUS, read_round(TORUS, text)))
            else:
                check_error(self, BadText, ("at", at), read_round, TORUS, text)
        self.assertEqual(read_round(TORUS, "a" * 40), (0,) * 40)
        check_error(self, BadText, ("at", 40), read_round, TORUS, "a" * 41)
        check_error(self, BadText, ("at", 40), read_round, TORUS, "a" * 39 + "bb")
        check_error(self, BadText, ("at", 39), read_round, TORUS, "a" * 39 + "A")

    def test_skins(self):
        for text, at in (
            ("", 0), ("b", 0), ("A", 0), ("g", 0), ("a", 1), ("ab", 2), ("aa", 1), ("abA", 3), ("abAB", None),
            ("aA", None),
            ("aAc", 3), ("aAcC", 4), ("acAC", 4), ("abABa", 4), ("aAg", 2), ("aA ", 2), ("abcdefABCDEF", None),
            ("abcdefABCDEFa", 12), ("abcdefABCDEFg", 12), ("aAb", 3), ("aAB", 3), ("afA", 3), ("aA\n", 2), (" aA", 0),
        ):
            if at is None:
                self.assertEqual(skin_text(read_skin(text)), text)
            else:
                check_error(self, BadText, ("at", at), read_skin, text)

    def test_exact(self):
        chance = chance_of(411)
        read = []
        for skin in (RING, TORUS, HOLES, Skin((0, 2, 4, 1, 3, 5))):
            for _ in range(150):
                size = chance.randint(0, 6)
                text = "".join(chance.choice("aAbBc" + chance.choice(["", "g", "C"])) for _ in range(size))
                read.append(check_exact(self, lambda one: read_word(skin, one), text))
                read.append(check_exact(self, lambda one: read_round(skin, one), text))
                read.append(check_exact(self, read_skin, "a" + text))
            for text in ODD_SIGNS:
                read.append(check_exact(self, lambda one: read_word(skin, one), text))
                read.append(check_exact(self, lambda one: read_round(skin, one), text))
                read.append(check_exact(self, read_skin, text))
        good = [is_read for is_read, _ in read]
        self.assertTrue(100 < good.count(True) < len(good) - 100)
        for text in ("a" * 41, "ab" * 21, "a" * 39 + "bb", "a" * 45):
            check_exact(self, lambda one: read_round(TORUS, one), text)
        check_exact(self, lambda one: read_word(TORUS, one), "aB" * 101)


if __name__ == "__main__":
    unittest.main()
