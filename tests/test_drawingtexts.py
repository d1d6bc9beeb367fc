"""Promise [67]: texts of sums and drawings."""

import unittest

from tautrounds.drawings import Drawing
from tautrounds.drawingtexts import drawing_text, read_drawing, read_sum, sum_text
from tautrounds.errors import BadDrawing, BadSkin, BadText
from tautrounds.skins import Skin
from tautrounds.sums import is_sum
from tests.helpers import (
    HOLES, NO_SKINS, ODD_VALUES, RING, TORUS, all_rounds, chance_drawing, chance_of, chance_rounds, chance_skin,
    chance_sum, check_error,
)
from tests.test_sums import MANY, check_sum_errors
from tests.test_wordtexts import NO_STRINGS, check_exact

TEXT = "aAbB\na ab\n0.0 1.0\n1.1\n"


def changed_texts(chance, text, signs, many):
    """The text with a sign put in, left out, or exchanged, here and there."""
    found = []
    for _ in range(many):
        at = chance.randint(0, len(text))
        sign = chance.choice(signs)
        found.append(chance.choice([
            text[:at] + sign + text[at:], text[:at] + text[at + 1:], text[:at] + sign + text[at + 1:], text[:at],
            text[:at] + text[at:at + 4] + text[at:], text + sign, sign + text,
        ]))
    return found


class SumTextTest(unittest.TestCase):
    def test_by_hand(self):
        some = {(2,): -3, (0, 2): 10 ** 9, (0, 3): 7}
        self.assertEqual(sum_text(TORUS, some), "1000000000 ab\n7 aB\n-3 b\n")
        self.assertEqual(sum_text(skin=TORUS, some={}), "")
        self.assertEqual(read_sum(skin=TORUS, text="1000000000 ab\n7 aB\n-3 b\n"), some)
        self.assertEqual(list(read_sum(TORUS, sum_text(TORUS, some))), [(0, 2), (0, 3), (2,)])
        self.assertEqual(list(some), [(2,), (0, 2), (0, 3)])
        self.assertEqual(read_sum(TORUS, ""), {})

    def test_there_and_back(self):
        chance = chance_of(420)
        for _ in range(60):
            skin = chance_skin(chance, chance.randint(1, 6))
            some = chance_sum(chance, skin, 8, 6)
            text = sum_text(skin, some)
            told = read_sum(skin, text)
            self.assertEqual(told, some)
            self.assertEqual(list(told), sorted(some))
            self.assertIs(type(told), dict)

    def test_places(self):
        for text, at in (
            (" ", 0), ("a", 0), ("1", 1), ("1a", 1), ("1 ", 2), ("1 a", 3), ("1  a\n", 2), ("1 a \n", 3), ("01 a\n", 1),
            ("0 a\n", 1), ("-0 a\n", 1), ("-", 1), ("--1 a\n", 1), ("+1 a\n", 0), ("- 1 a\n", 1), ("-a", 1),
            ("1 a\n1 a\n", 7), ("1 b\n1 a\n", 7), ("1 b\n1 ab\n", 8), ("1 a\n\n", 4), ("1 a\n ", 4), ("1 a\n1", 5),
            ("1 a\n1 ", 6), ("1 a\r\n", 3), ("1 c\n", 2), ("1 ba\n", 4), ("1 aA\n", 3), ("1 \n", 2), ("1\n", 1),
            ("1000000001 a\n", 10), ("-1000000001 a\n", 11), ("10000000000 a\n", 10), ("-10000000000 a\n", 11),
            ("9999999999 a\n", 10), ("99999999999", 10), ("1000000000", 10), ("1000000000 a", 12), ("00", 1), ("0", 1),
            ("-01", 1), ("1.0 a\n", 1), ("\u0661 a\n", 0), ("1\u0661 a\n", 1), ("1 " + "a" * 41 + "\n", 42), ("\n", 0),
            ("1 a\n2 b\nx", 8), ("-1 a\n-2 abA\n", 11), ("10 a", 4), ("1 a\t", 3), ("12345678901", 10), ("1 a\n0", 5),
        ):
            check_error(self, BadText, ("at", at), read_sum, TORUS, text)
            self.assertEqual(check_exact(self, lambda one: read_sum(TORUS, one), text), (False, at))
        for text in ("1000000000 a\n", "-1000000000 a\n", "1 " + "a" * 40 + "\n", "10 a\n-1 ab\n"):
            self.assertEqual(sum_text(TORUS, read_sum(TORUS, text)), text)

    def test_60_rows_and_61(self):
        loops = sorted(MANY[:61])
        text = "".join("1 {}\n".format("".join("aAbB"[letter] for letter in loop)) for loop in loops[:60])
        told = read_sum(TORUS, text)
        self.assertEqual((len(told), is_sum(TORUS, told)), (60, True))
        for more in ("1 BBBBBB\n", "1", "x", " ", "\n"):
            check_error(self, BadText, ("at", len(text)), read_sum, TORUS, text + more)
        check_exact(self, lambda one: read_sum(TORUS, one), text + "1 B\n")

    def test_exact(self):
        chance = chance_of(421)
        good = []
        for _ in range(40):
            skin = chance_skin(chance, chance.randint(1, 3))
            text = sum_text(skin, chance_sum(chance, skin, 3, 3))
            for other in changed_texts(chance, text, "aAbB0123456789 -\n.x", 15) + [text]:
                is_read, told = check_exact(self, lambda one: read_sum(skin, one), other)
                good.append(is_read)
                if is_read:
                    self.assertEqual(sum_text(skin, told), other)
        self.assertTrue(60 < good.count(True) < len(good) - 60)

    def test_errors(self):
        check_sum_errors(self, sum_text)
        for skin in NO_SKINS:
            check_error(self, BadSkin, ("part", None), read_sum, skin, None)
        for thing in NO_STRINGS:
            check_error(self, BadText, ("at", None), read_sum, TORUS, thing)


class DrawingTextTest(unittest.TestCase):
    def test_by_hand(self):
        drawing = Drawing(HOLES, [(0,), (0, 2)], [[(0, 0), (1, 0)], [(1, 1)]])
        self.assertEqual(drawing_text(drawing), TEXT)
        self.assertEqual(drawing_text(drawing=Drawing(TORUS, [], [[], []])), "abAB\n\n\n\n")
        self.assertEqual(read_drawing(TEXT), drawing)
        self.assertEqual(read_drawing(text="abAB\n\n\n\n"), Drawing(TORUS, [], [[], []]))
        self.assertEqual(read_drawing("aA\na\n0.0\n"), Drawing(RING, [(0,)], [[(0, 0)]]))

    def test_there_and_back(self):
        chance = chance_of(422)
        for _ in range(60):
            skin = chance_skin(chance, chance.randint(1, 6))
            drawing = chance_drawing(chance, skin, chance_rounds(chance, skin, chance.randint(0, 8), 9))
            text = drawing_text(drawing)
            self.assertEqual(read_drawing(text), drawing)
            self.assertEqual(text.count("\n"), skin.bands + 2)
            rows = text.split("\n")[2:-1]
            self.assertEqual(rows, [" ".join("{}.{}".format(*strand) for strand in row) for row in drawing.rows])

    def test_places(self):
        for text, at in (
            ("", 0), ("b", 0), ("aA", 2), ("a\n", 1), ("aAb\n", 3), ("aA\n", 3), ("aA\na", 4), ("aA\na\n", 5),
            ("aA\n\n", 4),
            ("aA\n\n\n\n", 5), ("aA\n\n\nx", 5), ("aA\n\n0.0\n", 4), ("aA\n\n \n", 4), ("aA\n \n", 3), ("aA\na \n", 5),
            ("aA\na  a\n", 5), ("aA\nb\n", 3), ("aA\nba\n", 3), ("aA\na\n\n", 5), ("aA\na\n0\n", 6), ("aA\na\n0.\n", 7),
            ("aA\na\n0.0", 8), ("aA\na\n0.0 \n", 9), ("aA\na\n0.0 0.0\n", 12), ("aA\na\n0.00\n", 8),
            ("aA\na\n00.0\n", 6), ("aA\na\n10.0\n", 6),
            ("aA\na\n1.0\n", 8), ("aA\na\n0.1\n", 8), ("aA\na\n0.12\n", 9), ("aA\na\n0.123\n", 9), ("aA\na\n-0.0\n", 5),
            ("aA\na\n0.0\n\n", 9), ("aA\na\n0.0\na", 9), ("aA\na a\n0.0\n", 10), ("aA\na a\n0.0 0.0\n", 14),
            ("aA\na a\n0.0 1.0 \n", 15), ("aA\na a\n0.0 1.0 0.0\n", 18), ("aA\na a\n0.0\t1.0\n", 10),
            ("aA\na\n9.9\n", 8),
            ("aA\naa\n0.0 0.1\n", None), ("aA\naa\n0.1 0.0\n", None), ("aA\naa\n0.1  0.0\n", 10), ("aA\r\n", 2),
            ("aAbB\nab\n0.1\n", 11), ("aAbB\nab\n0.0\n0.0\n", 15), ("aAbB\nab\n0.0\n\n", 12), ("aAbB\nba\n", 7),
            ("aAbB\naA\n", 6), ("aAbB\nab a\n0.0 1.0\n0.1\n", None), ("aAbB\na\n0.0\n\n", None),
            ("aAbB\na\n0.0\n0.0\n", 11),
            ("aA\na\n0.0\u0660\n", 8), ("aA\na\n\u0660.0\n", 5), ("aA\na,a\n", 4), ("aA\na\n0,0\n", 6),
            ("aA\naa\n0.1 0.1\n", 13),
        ):
            wanted = check_exact(self, read_drawing, text)
            if at is None:
                self.assertEqual(drawing_text(wanted[1]), text)
            else:
                self.assertEqual(wanted, (False, at), text)
                check_error(self, BadText, ("at", at), read_drawing, text)

    def test_eight_rounds_and_a_ninth(self):
        eight = "aA\n" + " ".join(["a"] * 8)
        text = eight + "\n" + " ".join("{}.0".format(place) for place in range(8)) + "\n"
        self.assertEqual(len(read_drawing(text).rounds), 8)
        for more in (" a\n", " ", " \n", " x"):
            check_error(self, BadText, ("at", len(eight) + 1), read_drawing, eight + more)
        check_exact(self, read_drawing, eight + " a\n")

    def test_80_letters_and_81(self):
        text = "abAB\n" + "a" * 40 + " " + "b" * 39
        for more, at in (
            (" aa\n", len(text) + 2), ("bb", len(text) + 1), ("b a", len(text) + 2), (" a a", len(text) + 3),
            (" ab", len(text) + 2), (" ba", len(text) + 2), ("b \n", len(text) + 2), (" aA", len(text) + 2),
        ):
            check_error(self, BadText, ("at", at), read_drawing, text + more)
            check_exact(self, read_drawing, text + more)
        drawing = chance_drawing(chance_of(423), TORUS, [(0,) * 40, (2,) * 39, (0,)])
        self.assertEqual(read_drawing(drawing_text(drawing)), drawing)
        check_error(self, BadText, ("at", 45), read_drawing, "abAB\n" + "a" * 41)
        check_error(self, BadText, ("at", 45), read_drawing, "abAB\n" + "a" * 40 + "b")

    def test_exact(self):
        chance = chance_of(424)
        good = []
        for _ in range(40):
            skin = chance_skin(chance, chance.randint(1, 3))
            drawing = chance_drawing(chance, skin, chance_rounds(chance, skin, chance.randint(0, 3), 3))
            text = drawing_text(drawing)
            others = changed_texts(chance, text, "aAbBcC0123 .\n-x", 15)
            for other in others + [text, text[:-1], text + "\n", text + " "]:
                is_read, told = check_exact(self, read_drawing, other)
                good.append(is_read)
                if is_read:
                    self.assertEqual(drawing_text(told), other)
        self.assertTrue(40 < good.count(True) < len(good) - 100)

    def test_long_drawings(self):
        skin = Skin((0, 2, 4, 6, 8, 10, 1, 3, 5, 7, 9, 11))
        drawing = chance_drawing(chance_of(425), skin, [(0, 2, 4, 6, 8, 0, 2, 4, 6, 8, 10)] * 7)
        text = drawing_text(drawing)
        self.assertIn("6.10", text)
        self.assertEqual(read_drawing(text), drawing)
        self.assertEqual(len(all_rounds(RING, 2)), 4)

    def test_errors(self):
        for thing in ODD_VALUES + NO_SKINS:
            check_error(self, BadDrawing, ("part", None), drawing_text, thing)
        for thing in NO_STRINGS:
            check_error(self, BadText, ("at", None), read_drawing, thing)


if __name__ == "__main__":
    unittest.main()
