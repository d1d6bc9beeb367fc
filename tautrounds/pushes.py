"""Exchanges of neighbours in a row, and the ways that straighten a drawing without ever adding a crossing."""

from tautrounds.drawings import Drawing, Layout, check_drawing
from tautrounds.errors import BadNumber
from tautrounds.given import is_list, is_tuple, is_within
from tautrounds.patches import check_drawn_once, patch_from, patch_starts, step_on


def _is_band(layout, band):
    """Whether it is one of the skin's bands."""
    return is_within(band, 0, layout.skin.bands - 1)


def _is_place(layout, band, place):
    """Whether the band's row has two neighbours there."""
    return is_within(place, 0, len(layout.rows[band]) - 2)


def _checked_layout(drawing, band, place):
    """The drawing's layout; an error unless the two strands there can be exchanged."""
    check_drawing(drawing)
    layout = Layout(drawing)
    if not _is_band(layout, band):
        raise BadNumber("band")
    if not _is_place(layout, band, place):
        raise BadNumber("place")
    return layout


def exchanged(drawing, band, place):
    """The Drawing with the strands at place and place + 1 of the band's row exchanged."""
    layout = _checked_layout(drawing, band, place)
    layout.swap(band, place)
    return Drawing(layout.skin, layout.rounds, layout.rows)


def _rise_there(layout, band, place):
    """How many crossings the exchange adds: at each end of the band it turns whether two chords cross.

    Of rounds gone several times, or along one another, both ends may have the same two chords, turned twice.
    """
    one, other = layout.rows[band][place], layout.rows[band][place + 1]
    even = [layout.begun(one, 2 * band), layout.begun(other, 2 * band)]
    odd = [layout.begun(one, 2 * band + 1), layout.begun(other, 2 * band + 1)]
    if sorted(even) == sorted(odd):
        return 0
    crossing = [layout.chords_cross(even[0], even[1]), layout.chords_cross(odd[0], odd[1])]
    return 2 - 2 * crossing.count(True)


def rise(drawing, band, place):
    """How many crossings more the drawing has with the two strands exchanged; below 0 if fewer."""
    return _rise_there(_checked_layout(drawing, band, place), band, place)


def _place_to_exchange(layout, one, other, end):
    """Where, from one strand to the other, two neighbours stand that cross at this end of the band.

    There are such as long as both strands cross there themselves.
    """
    band = end // 2
    place = min(layout.spots[one], layout.spots[other])
    row = layout.rows[band]
    while not layout.cross_at(row[place], row[place + 1], end):
        place += 1
    return place


def _push_over(layout, one, other, end, steps):
    """Brings the crossing that two strands have at this end of their band over to its other end.

    Whether a crossing went away on the way; the exchanges are put into steps.
    """
    band = end // 2
    while True:
        place = _place_to_exchange(layout, one, other, end)
        is_last = sorted([one, other]) == sorted(layout.rows[band][place:place + 2])
        fall = _rise_there(layout, band, place)
        layout.swap(band, place)
        steps.append((band, place))
        if fall < 0 or is_last:
            return fall < 0


def _push_along(layout, one, other, end, steps):
    """Pushes the first crossing of a patch along its bands until some two crossings went away.

    Crossings only move on, so the last crossing of the patch stays ahead of this one until it meets it.
    """
    while not _push_over(layout, one, other, end, steps):
        other = step_on(layout, other, end)[0]
        one, end = step_on(layout, one, end)


def _first_patch(layout):
    """Two strands in the first band of a patch, and the end by which they go into it; None if there is no patch."""
    for one, other, end in patch_starts(layout):
        if patch_from(layout, one, other, end) is not None:
            return one, other, end
    return None


def straightened(drawing):
    """Exchanges, none of which adds a crossing, behind all of which the drawing has the fewest ones."""
    check_drawing(drawing)
    check_drawn_once(drawing)
    layout = Layout(drawing)
    steps = []
    patch = _first_patch(layout)
    while patch is not None:
        _push_along(layout, patch[0], patch[1], patch[2], steps)
        patch = _first_patch(layout)
    return steps


def _is_step(layout, thing):
    """Whether it is a pair of numbers that tells two neighbours whose exchange adds no crossing."""
    if not is_tuple(thing) or len(thing) != 2:
        return False
    band, place = thing
    if not _is_band(layout, band) or not _is_place(layout, band, place):
        return False
    return _rise_there(layout, band, place) <= 0


def is_way(drawing, thing):
    """Of any value: whether it is a list of exchanges as straightened tells one."""
    check_drawing(drawing)
    check_drawn_once(drawing)
    if not is_list(thing):
        return False
    layout = Layout(drawing)
    for step in thing:
        if not _is_step(layout, step):
            return False
        layout.swap(step[0], step[1])
    return _first_patch(layout) is None
