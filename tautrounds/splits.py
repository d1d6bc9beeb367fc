"""The split: where a round crosses itself it falls into two rounds, with signs."""

from tautrounds.best import best_drawing
from tautrounds.brackets import crossing_sign, from_place, is_index
from tautrounds.drawings import Layout, check_drawing
from tautrounds.errors import BadNumber
from tautrounds.rounds import closed_up
from tautrounds.skins import check_skin
from tautrounds.sums import check_sum, put_together, times_rows


def _two_rounds(loop, place, spot):
    """The rounds of the letters behind place as far as spot, and of those behind spot as far as place."""
    letters = from_place(loop, place + 1)
    many = (spot - place) % len(loop)
    return closed_up(letters[:many]), closed_up(letters[many:])


def _split_of(drawing, index):
    """split_drawn of an index that surely is one."""
    layout = Layout(drawing)
    loop = drawing.rounds[index]
    rows = []
    for spot in range(len(loop)):
        for place in range(spot):
            sign = crossing_sign(layout, (index, place), (index, spot))
            if sign != 0:
                first, second = _two_rounds(loop, place, spot)
                rows.extend([((first, second), sign), ((second, first), -sign)])
    return put_together(rows)


def split_drawn(drawing, index):
    """The split of a round of a drawing, told by how it crosses itself there."""
    check_drawing(drawing)
    if not is_index(drawing, index):
        raise BadNumber("index")
    return _split_of(drawing, index)


def split(skin, some):
    """The split of a sum."""
    check_skin(skin)
    check_sum(skin, some)
    rows = []
    for loop, number in some.items():
        rows.extend(times_rows(_split_of(best_drawing(skin, [loop]), 0), number))
    return put_together(rows)
