"""Orbits: the least lots of numbers such that paired numbers are in one lot, of very many numbers."""

from tautrounds.errors import BadNumber
from tautrounds.given import is_list, is_number, is_tuple, is_within
from tautrounds.peels import are_together, orbit_sums, packed, sum_with, unpacked
from tautrounds.sums import is_number_of_sum

MOST_SIZE = 10 ** 62
MOST_PAIRINGS = 60
MOST_ROWS = 400
MOST_NUMBERS = 20


def _is_pairing(size, thing):
    """Whether it is a pairing of numbers below size."""
    if not is_tuple(thing) or len(thing) != 4 or not all([is_number(part) for part in thing]):
        return False
    start, other, length, way = thing
    if length < 1 or way not in (1, -1):
        return False
    return 0 <= start <= size - length and 0 <= other <= size - length


def _check_pairings(size, pairings):
    """BadNumber("size"), BadNumber("pairings") unless these can be paired."""
    if not is_within(size, 0, MOST_SIZE):
        raise BadNumber("size")
    if not is_list(pairings) or len(pairings) > MOST_PAIRINGS:
        raise BadNumber("pairings")
    if not all([_is_pairing(size, pairing) for pairing in pairings]):
        raise BadNumber("pairings")


def _is_weight(thing):
    """Whether it is a pair of a length and a tuple of 1 to 20 numbers."""
    if not is_tuple(thing) or len(thing) != 2 or not is_number(thing[0]) or thing[0] < 1:
        return False
    if not is_tuple(thing[1]) or not 1 <= len(thing[1]) <= MOST_NUMBERS:
        return False
    return all([is_number_of_sum(number) for number in thing[1]])


def _check_weights(size, weights):
    """BadNumber("weights") unless it is a list of weights of the numbers below size."""
    if not is_list(weights) or len(weights) > MOST_ROWS or not all([_is_weight(row) for row in weights]):
        raise BadNumber("weights")
    if sum([length for length, _ in weights]) != size or len(set([len(numbers) for _, numbers in weights])) > 1:
        raise BadNumber("weights")


def _check_one(size, number, part):
    """BadNumber of this part unless it is a number below size."""
    if not is_within(number, 0, size - 1):
        raise BadNumber(part)


def _rows(weights):
    """The rows of weights, packed."""
    return [(length, packed(numbers)) for length, numbers in weights]


def orbit_many(size, pairings):
    """How many orbits there are."""
    _check_pairings(size, pairings)
    return sum(list(orbit_sums(size, pairings, [(size, (0,))]).values()))


def orbit_kinds(size, pairings, weights):
    """The ascending list of the pairs of a sum of weights and how many orbits have this sum."""
    _check_pairings(size, pairings)
    _check_weights(size, weights)
    found = orbit_sums(size, pairings, _rows(weights))
    return sorted([(unpacked(worth, len(weights[0][1])), many) for worth, many in found.items()])


def orbit_sum(size, pairings, weights, number):
    """The sum of the weights of the orbit in which this number is."""
    _check_pairings(size, pairings)
    _check_weights(size, weights)
    _check_one(size, number, "number")
    return unpacked(sum_with(size, pairings, _rows(weights), number), len(weights[0][1]))


def same_orbit(size, pairings, one, other):
    """Whether two numbers are in one orbit."""
    _check_pairings(size, pairings)
    _check_one(size, one, "one")
    _check_one(size, other, "other")
    return are_together(size, pairings, one, other)
