"""Sums: rounds with numbers."""

from tautrounds.errors import BadNumber, BadSum
from tautrounds.given import is_within
from tautrounds.rounds import is_fit_round
from tautrounds.skins import check_skin

MOST_IN_SUM = 60
MOST_NUMBER = 1000000000


def is_number_of_sum(thing):
    """Whether it is a number that a sum may have, or 0."""
    return is_within(thing, -MOST_NUMBER, MOST_NUMBER)


def _is_fit_sum(skin, thing):
    """Whether it is a sum within the limits, of a skin that surely is one."""
    if type(thing) is not dict or len(thing) > MOST_IN_SUM:
        return False
    if not all([is_fit_round(skin, loop) for loop in thing]):
        return False
    return all([is_number_of_sum(number) and number != 0 for number in thing.values()])


def is_sum(skin, thing):
    """Of any value: whether it is a sum within the limits."""
    check_skin(skin)
    return _is_fit_sum(skin, thing)


def check_sum(skin, some):
    """BadSum unless it is a sum within the limits."""
    if not _is_fit_sum(skin, some):
        raise BadSum("a dict from at most 60 rounds to numbers that are not 0 is wanted")


def put_together(rows):
    """The ascending dict of a list of pairs of a key and a number: numbers of equal keys are added up, none is 0."""
    numbers = {}
    for key, number in rows:
        numbers[key] = numbers.get(key, 0) + number
    return {key: numbers[key] for key in sorted(numbers) if numbers[key] != 0}


def times_rows(some, times):
    """The rows of a sum, or of another dict to numbers, with each number times times."""
    return [(key, times * number) for key, number in some.items()]


def added(skin, one, other, times):
    """One sum and the other one, times times, put together."""
    check_skin(skin)
    check_sum(skin, one)
    check_sum(skin, other)
    if not is_number_of_sum(times):
        raise BadNumber("times")
    return put_together(times_rows(one, 1) + times_rows(other, times))


def weight(skin, some):
    """The numbers of a sum without their signs, added up."""
    check_skin(skin)
    check_sum(skin, some)
    return sum([abs(number) for number in some.values()])
