"""Texts of words, rounds and skins: a sign for each letter."""

from tautrounds.readers import Reader, signs_of
from tautrounds.skins import check_skin
from tautrounds.words import MOST_LETTERS, check_word


def word_text(skin, word):
    """The signs of a word."""
    check_skin(skin)
    check_word(skin, word)
    return signs_of(word)


def skin_text(skin):
    """The signs of the skin's row."""
    check_skin(skin)
    return signs_of(skin.row)


def read_word(skin, text):
    """The word with exactly this text."""
    check_skin(skin)
    reader = Reader(text)
    word = reader.read_letters(2 * skin.bands, MOST_LETTERS, False)
    reader.check(reader.is_ended())
    return word


def read_round(skin, text):
    """The round with exactly this text."""
    check_skin(skin)
    reader = Reader(text)
    loop = reader.read_round(skin)
    reader.check(reader.is_ended())
    return loop


def read_skin(text):
    """The Skin with exactly this text."""
    reader = Reader(text)
    skin = reader.read_skin()
    reader.check(reader.is_ended())
    return skin
