"""The numbers of bundles on fans: how often their rounds cross each bridge."""

from tautrounds.chords import MOST_IN_BUNDLE, check_bundle, told_numbers
from tautrounds.errors import BadBundle
from tautrounds.given import is_tuple, is_within
from tautrounds.nets import Net, check_fan, fan_across, flips_between
from tautrounds.passages import bundle_weave
from tautrounds.triples import check_bands, plain_triple


def row_on(skin, fan, numbers):
    """numbers_on of a fan and numbers that surely are such."""
    weave = bundle_weave(skin, numbers)
    return told_numbers([weave.crossed_on(start, word, end) for start, word, end in fan])


def numbers_on(skin, fan, numbers):
    """For each place of the fan how often the rounds of the bundle cross its bridge."""
    check_bands(skin)
    check_fan(skin, fan, None)
    check_bundle(skin, numbers, "numbers")
    return row_on(skin, fan, numbers)


def _is_row(skin, fan, thing):
    """Whether it is a row that all triangles of the fan let."""
    if not is_tuple(thing) or len(thing) != len(fan):
        return False
    if not all([is_within(number, 0, MOST_IN_BUNDLE - 1) for number in thing]):
        return False
    for triangle in Net(skin, fan).triangles():
        sides = [thing[place] for place in triangle]
        if sum(sides) % 2 == 1 or 2 * max(sides) > sum(sides):
            return False
    return True


def is_numbers_on(skin, fan, thing):
    """Of any value: whether it is a row of numbers that all triangles of the fan let."""
    check_bands(skin)
    check_fan(skin, fan, None)
    return _is_row(skin, fan, thing)


def _led_row(skin, fan, row):
    """The dict from the bridges of the first fan to their numbers: the numbers follow the flips that lead there."""
    numbers = {}
    for bridge, number in zip(fan, row):
        numbers[bridge] = number
    for net, place, new in flips_between(skin, list(fan), fan_across(skin)):
        one, other, third, fourth = [numbers[net.bridges[side]] for side in net.corners(place)]
        numbers[new] = max(one + third, other + fourth) - numbers.pop(net.bridges[place])
    return numbers


def numbers_from(skin, fan, row):
    """The numbers of the bundle that has this row on the fan."""
    check_bands(skin)
    check_fan(skin, fan, None)
    if not _is_row(skin, fan, row):
        raise BadBundle("row")
    numbers = _led_row(skin, fan, row)
    ends = [skin.places[2 * band] for band in range(skin.bands)]
    ways = [(place, (place + 1) % len(skin.row)) for place in ends]
    ways.extend([(0, place) for place in range(2, len(skin.row) - 1)])
    return told_numbers([numbers[plain_triple(skin, start, (), end)] for start, end in ways])
