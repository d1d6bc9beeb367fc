"""Simple rounds: those that can be drawn without crossing themselves."""

from tautrounds.errors import BadNumber, TooMany
from tautrounds.given import is_within
from tautrounds.linked import own_number
from tautrounds.rounds import check_round
from tautrounds.skins import check_skin, least_turn

MOST_WORDS = 10000


def is_simple(skin, loop):
    """Whether the round can be drawn without crossing itself."""
    check_skin(skin)
    check_round(skin, loop)
    return own_number(skin, loop) == 0


def words_many(bands, most):
    """How many words of 1 to most letters have no two letters side by side, read round, that undo one another.

    Of length letters there are (2 * bands - 1) ** length + 1 such words, and 2 * (bands - 1) more for an even
    length: the traces of the powers of the matrix that tells which letter may stand behind which.
    """
    many = 0
    power = 1
    for length in range(1, most + 1):
        power = power * (2 * bands - 1)
        many += power + 1
        if length % 2 == 0:
            many += 2 * (bands - 1)
    return many


def _starts_longer(starts, many_ends):
    """The words of one letter more that begin with one of these and may still be a round's letters.

    No letter of a round is less than its first one, which begins its least turn.
    """
    return [
        word + (letter,)
        for word in starts
        for letter in range(word[0], many_ends)
        if letter != word[-1] ^ 1
    ]


def _is_least(word):
    """Whether a free word is a round."""
    return word[0] != word[-1] ^ 1 and least_turn(word) == word


def simple_rounds(skin, most):
    """The simple rounds of at most so many letters, by how many they have, then ascending."""
    check_skin(skin)
    if not is_within(most, 1, 8):
        raise BadNumber("most")
    if words_many(skin.bands, most) > MOST_WORDS:
        raise TooMany(MOST_WORDS)
    starts = [(letter,) for letter in range(2 * skin.bands)]
    found = []
    for length in range(1, most + 1):
        if length > 1:
            starts = _starts_longer(starts, 2 * skin.bands)
        found.extend([word for word in starts if _is_least(word) and own_number(skin, word) == 0])
    return found


def _goes_one_way(loop):
    """Whether for each band the round has letters of at most one direction of it."""
    return not any([letter ^ 1 in loop for letter in loop])


def _spread(loop, band, size):
    """By how many the letters of a band differ in any two rows of so many neighbouring letters."""
    read = [letter // 2 == band for letter in loop + loop]
    counts = [read[at:at + size].count(True) for at in range(len(loop))]
    return max(counts) - min(counts)


def is_even(skin, loop):
    """Whether the round goes along each band one way only, and spreads its letters as evenly as can be."""
    check_skin(skin)
    check_round(skin, loop)
    if not _goes_one_way(loop):
        return False
    rows = [(band, size) for band in range(skin.bands) for size in range(1, len(loop))]
    return all([_spread(loop, band, size) <= 1 for band, size in rows])
