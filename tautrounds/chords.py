"""The numbers of bundles, and the chords of the disc that they tell.

e0, e1, .. are the ends of the skin in its sequence; an end is told here by its place there. The height h(i) is how
many chords lead from one of the first i ends to one of the others.
"""

from tautrounds.errors import BadBundle, TooMany
from tautrounds.given import is_tuple, is_within

MOST_IN_BUNDLE = 10 ** 60


def heights(skin, numbers):
    """h(0) to h(2 * n), of numbers of a skin with n bands."""
    last = len(skin.row) - 1
    told = [0, numbers[skin.row[0] // 2]] + list(numbers[skin.bands:])
    if last > 1:
        told.append(numbers[skin.row[last] // 2])
    return told + [0]


def _is_triangle(one, other, third):
    """Whether three numbers have an even sum, and none is above the two others together."""
    return (one + other + third) % 2 == 0 and 2 * max(one, other, third) <= one + other + third


def is_fit_bundle(skin, thing):
    """Whether it is the numbers of a bundle, of a skin that surely is one."""
    if not is_tuple(thing) or len(thing) != skin.bands + max(0, 2 * skin.bands - 3):
        return False
    if not all([is_within(number, 0, MOST_IN_BUNDLE - 1) for number in thing]):
        return False
    tall = heights(skin, thing)
    ends = range(1, 2 * skin.bands - 1)
    return all([_is_triangle(tall[at], tall[at + 1], thing[skin.row[at] // 2]) for at in ends])


def check_bundle(skin, numbers, part):
    """BadBundle of this part unless it is the numbers of a bundle."""
    if not is_fit_bundle(skin, numbers):
        raise BadBundle(part)


def told_numbers(numbers):
    """The numbers as a tuple; TooMany(10 ** 60) unless all are below that."""
    if max(numbers) >= MOST_IN_BUNDLE:
        raise TooMany(MOST_IN_BUNDLE)
    return tuple(numbers)


def letters_many(skin, numbers):
    """How many letters the rounds of a bundle have together."""
    return sum(list(numbers[:skin.bands]))


def runs(skin, numbers):
    """The chords that lead side by side between two ends, as tuples (i, first, j, start, many).

    The strands of e(i) from first on, counterclockwise, are led to those of e(j) from start on, the last one of the
    former to the first one of the latter: chords stand within one another like brackets.
    """
    tall = heights(skin, numbers)
    begun = []
    found = []
    for place, end in enumerate(skin.row):
        many = numbers[end // 2]
        back = (tall[place] + many - tall[place + 1]) // 2
        at = 0
        while at < back:
            other, first, left = begun.pop()
            size = min(left, back - at)
            found.append((other, first + left - size, place, at, size))
            if size < left:
                begun.append((other, first, left - size))
            at += size
        if many > back:
            begun.append((place, back, many - back))
    return found


def chord_numbers(skin, numbers):
    """The ascending dict from pairs of places of ends to how many chords lead between them."""
    many = {(one, other): size for one, _, other, _, size in runs(skin, numbers)}
    return {pair: many[pair] for pair in sorted(many)}


def numbers_drawn(skin, rounds):
    """The numbers of rounds, however many, that surely cross neither themselves nor one another."""
    bands = [0] * skin.bands
    tall = [0] * len(skin.row)
    for loop in rounds:
        for at, letter in enumerate(loop):
            bands[letter // 2] += 1
            ends = (skin.places[loop[at - 1] ^ 1], skin.places[letter])
            for place in range(min(ends) + 1, max(ends) + 1):
                tall[place] += 1
    return tuple(bands + tall[2:len(skin.row) - 1])
