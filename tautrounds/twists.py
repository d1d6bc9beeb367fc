"""Twists along simple rounds: who crosses the round goes along it, to the left, then on."""

from tautrounds.best import best_drawing
from tautrounds.brackets import from_place
from tautrounds.changes import both_ways, check_lengths
from tautrounds.errors import BadNumber, NotSimple
from tautrounds.given import is_within
from tautrounds.linked import own_number
from tautrounds.rounds import check_round
from tautrounds.skins import check_skin
from tautrounds.words import cut_free, gone_back


def check_simple(skin, loop):
    """NotSimple unless a round, that surely is one, is simple."""
    if own_number(skin, loop) != 0:
        raise NotSimple("a round that need not cross itself is wanted")


def check_twist_times(times):
    """BadNumber("times") unless one may twist so often."""
    if not is_within(times, -9, 9):
        raise BadNumber("times")


def _many_times(word, times):
    """The word so many times, or its undone if times is below 0."""
    return word * times if times > 0 else gone_back(word) * -times


def _noted(loop, place, end, times):
    """The letters noted where the strand at place comes to the disc's edge at this end."""
    if loop[place] == end:
        return _many_times(from_place(loop, place), -times)
    return _many_times(from_place(loop, place + 1), times)


def twist_images(skin, loop, times):
    """The images of a twist along a simple round, of words of any length."""
    rows = best_drawing(skin, [loop]).rows
    ahead = {}
    beyond = {}
    word = ()
    for end in skin.row:
        ahead[end] = word
        row = rows[end // 2]
        for strand in row if end % 2 == 0 else row[::-1]:
            word = cut_free(word + _noted(loop, strand[1], end, times))
        beyond[end] = word
    even = range(0, len(skin.row), 2)
    return both_ways([cut_free(ahead[letter] + (letter,) + gone_back(beyond[letter + 1])) for letter in even])


def twist(skin, loop, times):
    """The images of the twist along a simple round, so many times."""
    check_skin(skin)
    check_round(skin, loop)
    check_simple(skin, loop)
    check_twist_times(times)
    images = twist_images(skin, loop, times)
    check_lengths(images)
    return images
