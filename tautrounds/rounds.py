"""Rounds: closed ways, each told by the least turn of its letters."""

from tautrounds.errors import BadNumber, BadRound, BadRounds
from tautrounds.given import is_list, is_within
from tautrounds.skins import check_skin, least_turn
from tautrounds.words import check_word, cut_free, gone_back, has_letters

MOST_IN_ROUND = 40
MOST_ROUNDS = 8
MOST_TOGETHER = 80


def closed_letters(word):
    """What is left of letters, however many, when their end is joined to their front, not turned yet."""
    left = cut_free(word)
    cut = 0
    while len(left) - 2 * cut >= 2 and left[cut] == left[len(left) - 1 - cut] ^ 1:
        cut += 1
    return left[cut:len(left) - cut]


def closed_up(word):
    """The round of letters, however many; () if nothing is left of them."""
    left = closed_letters(word)
    return least_turn(left) if left else ()


def round_of(skin, word):
    """The round that the word's letters make when its end is joined to its front."""
    check_skin(skin)
    check_word(skin, word)
    return closed_up(word)


def is_fit_round(skin, thing):
    """Whether it is a round within the limits, of a skin that surely is one."""
    return has_letters(skin, thing, MOST_IN_ROUND) and len(thing) > 0 and closed_up(thing) == thing


def is_round(skin, thing):
    """Of any value: whether it is a round within the limits."""
    check_skin(skin)
    return is_fit_round(skin, thing)


def check_round(skin, loop):
    """BadRound unless it is a round within the limits."""
    if not is_fit_round(skin, loop):
        raise BadRound("a round of at most 40 letters is wanted")


def check_rounds(skin, rounds):
    """BadRounds unless it is a list of rounds within the limits."""
    if not is_list(rounds) or len(rounds) > MOST_ROUNDS:
        raise BadRounds("list")
    for place, loop in enumerate(rounds):
        if not is_fit_round(skin, loop):
            raise BadRounds(place)
    if sum([len(loop) for loop in rounds]) > MOST_TOGETHER:
        raise BadRounds("list")


def gone_round_back(loop):
    """The round of the same way, gone in the other direction."""
    return least_turn(gone_back(loop))


def turned_about(skin, loop):
    """The round gone in the other direction."""
    check_skin(skin)
    check_round(skin, loop)
    return gone_round_back(loop)


def gone(skin, loop, times):
    """The round gone so many times; it may have more letters than are let in."""
    check_skin(skin)
    check_round(skin, loop)
    if not is_within(times, 1, 9):
        raise BadNumber("times")
    return loop * times


def rooted(loop):
    """The shortest round of which this one is made, and how often it is gone."""
    size = 1
    while len(loop) % size != 0 or loop[:size] * (len(loop) // size) != loop:
        size += 1
    return loop[:size], len(loop) // size


def root_of(skin, loop):
    """The pair of the round's root and how often it is gone."""
    check_skin(skin)
    check_round(skin, loop)
    return rooted(loop)


def go_along(one, other):
    """Whether the roots of two rounds are the same way, in either direction."""
    root = rooted(one)[0]
    return rooted(other)[0] in (root, gone_round_back(root))


def along(skin, one, other):
    """Whether the roots are the same, or one is the other turned about."""
    check_skin(skin)
    check_round(skin, one)
    check_round(skin, other)
    return go_along(one, other)
