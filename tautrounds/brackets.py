"""The bracket: rounds put together where they cross, with signs."""

from tautrounds.best import best_drawing
from tautrounds.drawings import Layout, check_drawing
from tautrounds.errors import BadNumber
from tautrounds.given import is_within
from tautrounds.rounds import closed_up
from tautrounds.skins import check_skin
from tautrounds.sums import check_sum, put_together, times_rows


def is_index(drawing, thing):
    """Whether it is an index of the drawing's rounds."""
    return is_within(thing, 0, len(drawing.rounds) - 1)


def from_place(loop, place):
    """The letters of a round from this place on, once round it; places are counted round."""
    at = place % len(loop)
    return loop[at:] + loop[:at]


def crossing_sign(layout, one, other):
    """1 if the chord that begins with other crosses that of one from the right, -1 from the left, 0 if not at all."""
    if not layout.chords_cross(one, other):
        return 0
    start, end = layout.chord(one)
    come = layout.chord(other)[0]
    if start < end:
        return 1 if start < come < end else -1
    return -1 if end < come < start else 1


def _bracket_rows(drawing, one, other):
    """For each crossing of two rounds the round that comes of it, or no letters, and its sign."""
    layout = Layout(drawing)
    first, second = drawing.rounds[one], drawing.rounds[other]
    rows = []
    for place in range(len(first)):
        for spot in range(len(second)):
            sign = crossing_sign(layout, (one, place), (other, spot))
            if sign != 0:
                rows.append((closed_up(from_place(first, place + 1) + from_place(second, spot + 1)), sign))
    return rows


def _bracket_of(drawing, one, other):
    """bracket_drawn of indexes that surely are such."""
    return put_together([(loop, sign) for loop, sign in _bracket_rows(drawing, one, other) if loop])


def bracket_drawn(drawing, one, other):
    """The bracket of two rounds of a drawing, told by how they cross in it."""
    check_drawing(drawing)
    if not is_index(drawing, one):
        raise BadNumber("one")
    if not is_index(drawing, other) or other == one:
        raise BadNumber("other")
    return _bracket_of(drawing, one, other)


def bracket_of_rounds(skin, one, other):
    """The bracket of two rounds that surely are such."""
    return _bracket_of(best_drawing(skin, [one, other]), 0, 1)


def bracket(skin, one, other):
    """The bracket of two sums."""
    check_skin(skin)
    check_sum(skin, one)
    check_sum(skin, other)
    rows = []
    for first, many in one.items():
        for second, number in other.items():
            rows.extend(times_rows(bracket_of_rounds(skin, first, second), many * number))
    return put_together(rows)
