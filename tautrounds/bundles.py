"""Bundles: simple rounds that do not cross, told by numbers alone."""

from tautrounds.chords import (
    check_bundle, chord_numbers, is_fit_bundle, letters_many, numbers_drawn, runs, told_numbers,
)
from tautrounds.errors import BadBundle, BadNumber, TooMany
from tautrounds.given import is_within
from tautrounds.linked import own_number, pairs_of
from tautrounds.passages import bundle_weave
from tautrounds.roundkinds import kinds_of
from tautrounds.rounds import check_rounds, gone_round_back
from tautrounds.skins import check_skin, least_turn
from tautrounds.sums import put_together

MOST_DRAWN = 400
MOST_TIMES = 10 ** 9


def numbers_of(skin, rounds):
    """The numbers of the bundle of these rounds."""
    check_skin(skin)
    check_rounds(skin, rounds)
    for place, loop in enumerate(rounds):
        if own_number(skin, loop) != 0 or any([pairs_of(skin, loop, other) for other in rounds[place + 1:]]):
            raise BadBundle("rounds")
    return numbers_drawn(skin, rounds)


def is_bundle(skin, thing):
    """Of any value: whether it is the numbers of a bundle."""
    check_skin(skin)
    return is_fit_bundle(skin, thing)


def joined(skin, numbers):
    """The ascending dict from pairs of places of ends to how many chords lead between them."""
    check_skin(skin)
    check_bundle(skin, numbers, "numbers")
    return chord_numbers(skin, numbers)


def _point_across(skin, numbers, point):
    """The point to which the strand leads that comes to the disc's edge at this one: a pair of an end and a place."""
    end, at = point
    return end ^ 1, numbers[end // 2] - 1 - at


def _chord_ends(skin, numbers):
    """For each point at the disc's edge, as (end, place counterclockwise), the one to which its chord leads."""
    ends = {}
    for one, first, other, start, many in runs(skin, numbers):
        for step in range(many):
            point = (skin.row[one], first + step)
            beyond = (skin.row[other], start + many - 1 - step)
            ends[point] = beyond
            ends[beyond] = point
    return ends


def _drawn_rounds(skin, numbers):
    """The rounds of a bundle, each as often as it is there, in one of its two directions."""
    ends = _chord_ends(skin, numbers)
    seen = set()
    found = []
    for start in ends:
        if start in seen:
            continue
        word = []
        point = start
        while not word or point != start:
            come = _point_across(skin, numbers, point)
            seen.add(point)
            seen.add(come)
            word.append(point[0])
            point = ends[come]
        found.append(least_turn(tuple(word)))
    return found


def _told_rounds(skin, numbers):
    """bundle_of numbers that surely are those of a bundle, of few letters."""
    found = [(min(loop, gone_round_back(loop)), 1) for loop in _drawn_rounds(skin, numbers)]
    return [(loop, times) for loop, times in put_together(found).items()]


def bundle_of(skin, numbers):
    """The ascending list of the pairs of a round of the bundle and how often it is there."""
    check_skin(skin)
    check_bundle(skin, numbers, "numbers")
    if letters_many(skin, numbers) > MOST_DRAWN:
        raise TooMany(MOST_DRAWN)
    return _told_rounds(skin, numbers)


def _check_both(skin, one, other):
    """BadSkin, BadBundle unless both are numbers of bundles of the skin."""
    check_skin(skin)
    check_bundle(skin, one, "one")
    check_bundle(skin, other, "other")


def _added_up(one, other):
    """Two rows of numbers added up place by place."""
    return tuple([number + another for number, another in zip(one, other)])


def laid(skin, one, other):
    """The numbers of both bundles together, laid side by side."""
    _check_both(skin, one, other)
    return told_numbers(_added_up(one, other))


def multiplied(skin, numbers, times):
    """The numbers of the bundle with each round so many times as often."""
    check_skin(skin)
    check_bundle(skin, numbers, "numbers")
    if not is_within(times, 0, MOST_TIMES):
        raise BadNumber("times")
    return told_numbers([number * times for number in numbers])


def divided(skin, numbers, shares):
    """The numbers of a share, if all shares can be alike; None otherwise."""
    check_skin(skin)
    check_bundle(skin, numbers, "numbers")
    if not is_within(shares, 1, MOST_TIMES):
        raise BadNumber("shares")
    share = tuple([number // shares for number in numbers])
    if tuple([number * shares for number in share]) != numbers or not is_fit_bundle(skin, share):
        return None
    return share


def bundles_crossed(skin, one, other):
    """How often rounds of one bundle cross rounds of the other, all together."""
    _check_both(skin, one, other)
    few, many = one, other
    if letters_many(skin, few) > letters_many(skin, many):
        few, many = other, one
    if letters_many(skin, few) > MOST_DRAWN:
        raise TooMany(MOST_DRAWN)
    weave = bundle_weave(skin, many)
    return sum([times * weave.crossed_round(loop) for loop, times in _told_rounds(skin, few)])


def is_apart(skin, one, other):
    """Whether no round of one bundle crosses a round of the other: then laid side by side all rounds stay."""
    _check_both(skin, one, other)
    both = put_together(kinds_of(skin, one) + kinds_of(skin, other))
    return dict(kinds_of(skin, _added_up(one, other))) == both
