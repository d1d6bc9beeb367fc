"""Words: tuples of letters, each a going out of the disc at an end and back along its band."""

from tautrounds.errors import BadWord
from tautrounds.given import is_tuple
from tautrounds.skins import check_skin, is_end

MOST_LETTERS = 200


def is_any_word(skin, thing):
    """Whether it is a word, however long."""
    return is_tuple(thing) and all([is_end(skin, letter) for letter in thing])


def has_letters(skin, thing, most):
    """Whether it is a tuple of at most so many letters of the skin."""
    return is_tuple(thing) and len(thing) <= most and is_any_word(skin, thing)


def is_word(skin, thing):
    """Of any value: whether it is a word within the limits."""
    check_skin(skin)
    return has_letters(skin, thing, MOST_LETTERS)


def check_word(skin, word):
    """BadWord unless it is a word within the limits."""
    if not has_letters(skin, word, MOST_LETTERS):
        raise BadWord("a tuple of at most 200 letters of the skin is wanted")


def cut_free(word):
    """What is left of letters, however many, when pairs side by side that undo one another are taken out."""
    left = []
    for letter in word:
        if left and left[-1] == letter ^ 1:
            left.pop()
        else:
            left.append(letter)
    return tuple(left)


def gone_back(word):
    """The letters, however many, that undo these, in the other sequence."""
    return tuple([letter ^ 1 for letter in word[::-1]])


def free(skin, word):
    """The word without pairs of letters side by side that undo one another."""
    check_skin(skin)
    check_word(skin, word)
    return cut_free(word)


def undone(skin, word):
    """The letters that undo the word's letters, in the other sequence."""
    check_skin(skin)
    check_word(skin, word)
    return gone_back(word)
