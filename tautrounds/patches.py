"""Patches: two lines that cross twice, with bands between; a drawing has the fewest crossings if it has none."""

from tautrounds.drawings import Layout, check_drawing
from tautrounds.errors import BadDrawing
from tautrounds.rounds import go_along, rooted


def check_drawn_once(drawing):
    """BadDrawing("rounds") if a round is gone several times, or two go along one another."""
    for place, loop in enumerate(drawing.rounds):
        if rooted(loop)[1] > 1:
            raise BadDrawing("rounds")
        if any([go_along(loop, other) for other in drawing.rounds[place + 1:]]):
            raise BadDrawing("rounds")


def step_on(layout, strand, end):
    """The pair of the next strand of the line that goes out of the disc at end with this one, and its end."""
    if layout.letter(strand) == end:
        behind = layout.on(strand, 1)
        return behind, layout.letter(behind)
    behind = layout.on(strand, -1)
    return behind, layout.letter(behind) ^ 1


def patch_from(layout, one, other, end):
    """The patch whose first band two strands go along, out of the disc at end: None if there is none.

    Told as a triple: how many bands it has, and the strands in its last one.
    """
    if not layout.cross_at(one, other, end):
        return None
    length = 1
    beyond = end
    while not layout.cross_at(one, other, end ^ 1):
        one, end = step_on(layout, one, end)
        other, beyond = step_on(layout, other, beyond)
        if end != beyond:
            return None
        length += 1
    return length, one, other


def patch_starts(layout):
    """All triples of two strands along one band, the lesser one first, and an end of it."""
    starts = []
    for end in range(2 * layout.skin.bands):
        row = sorted(layout.rows[end // 2])
        for at, one in enumerate(row):
            starts.extend([(one, other, end) for other in row[at + 1:]])
    return starts


def patches(drawing):
    """The ascending list of the triples (s, t, length) of the patches."""
    check_drawing(drawing)
    check_drawn_once(drawing)
    layout = Layout(drawing)
    found = set()
    for one, other, end in patch_starts(layout):
        patch = patch_from(layout, one, other, end)
        if patch is not None:
            length, last, tail = patch
            pair = min((one, other), (min(last, tail), max(last, tail)))
            found.add((pair[0], pair[1], length))
    return sorted(found)


def is_fewest(drawing):
    """Whether the drawing has no patch, and so the fewest crossings."""
    return not patches(drawing)
