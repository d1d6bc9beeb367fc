"""Reading a text sign by sign, from the left."""

from tautrounds.errors import BadText
from tautrounds.rounds import MOST_IN_ROUND, is_fit_round
from tautrounds.skins import Skin, is_row

LETTER_SIGNS = "aAbBcCdDeEfF"
FIGURES = "0123456789"
FIGURES_OF_NUMBER = 10


class Reader:
    """A text, and the place as far as which it was read: at is the first place of a sign that is not read yet."""

    def __init__(self, text):
        if type(text) is not str:
            raise BadText(None)
        self.text = text
        self.at = 0

    def sign(self):
        """The next sign; nothing at the end of the text."""
        return self.text[self.at:self.at + 1]

    def is_ended(self):
        """Whether all of the text is read."""
        return self.at == len(self.text)

    def check(self, is_right):
        """BadText with the place of the next sign unless all is right so far."""
        if not is_right:
            raise BadText(self.at)

    def read_sign(self, sign):
        """Reads the next sign, which must be this one."""
        self.check(self.sign() == sign)
        self.at += 1

    def read_figures(self, most):
        """Reads one figure or more, at most so many, without zeros ahead: their number."""
        self.check(not self.is_ended() and self.sign() in FIGURES)
        start = self.at
        self.at += 1
        while self._has_next_figure(start, most):
            self.at += 1
        return int(self.text[start:self.at])

    def _has_next_figure(self, start, most):
        """Whether a figure comes that belongs to the number begun at start."""
        if self.is_ended() or self.sign() not in FIGURES:
            return False
        return self.at - start < most and self.text[start] != "0"

    def read_number(self):
        """Reads a number of at most ten figures, with - ahead of those below 0."""
        if self.sign() != "-":
            return self.read_figures(FIGURES_OF_NUMBER)
        self.at += 1
        self.check(self.sign() != "0")
        return -self.read_figures(FIGURES_OF_NUMBER)

    def letter(self):
        """The letter that the next sign tells; None if it tells none."""
        return LETTER_SIGNS.find(self.sign()) if not self.is_ended() and self.sign() in LETTER_SIGNS else None

    def read_letters(self, many_ends, most, is_free):
        """Reads letters below many_ends as long as they can stand, at most so many.

        If is_free none of them undoes the one ahead of it.
        """
        letters = []
        letter = self.letter()
        while letter is not None and letter < many_ends and len(letters) < most:
            if is_free and letters and letters[-1] == letter ^ 1:
                break
            letters.append(letter)
            self.at += 1
            letter = self.letter()
        return tuple(letters)

    def read_round(self, skin, most=MOST_IN_ROUND):
        """Reads a round of at most so many letters, and of no more than a round may have."""
        loop = self.read_letters(2 * skin.bands, min(most, MOST_IN_ROUND), True)
        self.check(is_fit_round(skin, loop))
        return loop

    def read_skin(self):
        """Reads the row of a skin."""
        row = []
        letter = self.letter()
        while letter is not None and letter not in row and (row or letter == 0):
            row.append(letter)
            self.at += 1
            letter = self.letter()
        self.check(is_row(row))
        return Skin(row)


def signs_of(letters):
    """The signs of letters."""
    return "".join([LETTER_SIGNS[letter] for letter in letters])
