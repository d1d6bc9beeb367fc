"""Lines: rounds unrolled in the tree of discs and bands, and the bands that two of them have in common."""

from tautrounds.errors import BadStrand
from tautrounds.given import is_within
from tautrounds.rounds import check_round
from tautrounds.skins import check_skin, stands_ahead


def letter_on(loop, place, way, far):
    """The letter of the line's band far bands on from the strand at place.

    The line is read as the round goes if way is 1, and the other way if it is -1.
    """
    letter = loop[(place + way * far) % len(loop)]
    return letter if way == 1 else letter ^ 1


def _shared(one, place, other, spot, way, side):
    """How many bands two lines share beyond those of these strands, to one side (1 on, -1 back).

    None if they go along one another: lines that agree for as many letters as both rounds have agree for ever.
    """
    for many in range(len(one) + len(other)):
        far = side * (many + 1)
        if letter_on(one, place, 1, far) != letter_on(other, spot, way, far):
            return many
    return None


def _from_left(skin, one, place, other, spot, way):
    """Whether the first line comes from the left: the stretch begins with these strands."""
    leave = letter_on(one, place, 1, 0)
    return stands_ahead(skin, leave, letter_on(one, place, 1, -1) ^ 1, letter_on(other, spot, way, -1) ^ 1)


def _to_right(skin, one, place, other, spot, way):
    """Whether the first line goes to the right: the stretch ends with these strands."""
    come = letter_on(one, place, 1, 0) ^ 1
    return stands_ahead(skin, come, letter_on(one, place, 1, 1), letter_on(other, spot, way, 1))


def common_stretch(skin, one, place, other, spot):
    """The stretch of two lines, as told by stretch, for strands that surely run along one band."""
    way = 1 if one[place] == other[spot] else -1
    back = _shared(one, place, other, spot, way, -1)
    on = _shared(one, place, other, spot, way, 1)
    if back is None or on is None:
        return None
    from_left = _from_left(skin, one, place - back, other, spot - way * back, way)
    to_right = _to_right(skin, one, place + on, other, spot + way * on, way)
    return back, back + 1 + on, from_left == to_right


def stretch(skin, one, place, other, spot):
    """The triple (begin, length, linked) of the lines with these strands; None if they go along one another."""
    check_skin(skin)
    check_round(skin, one)
    check_round(skin, other)
    if not is_within(place, 0, len(one) - 1) or not is_within(spot, 0, len(other) - 1):
        raise BadStrand("a strand is told by its place in the round")
    if one[place] // 2 != other[spot] // 2:
        raise BadStrand("strands along one band are wanted")
    return common_stretch(skin, one, place, other, spot)
