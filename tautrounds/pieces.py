"""Pieces: what strands and chords leave of a skin, and whether rounds fill it."""

from tautrounds.best import best_drawing
from tautrounds.cells import pieces_of
from tautrounds.drawings import check_drawing, crossed_number
from tautrounds.rounds import check_rounds, closed_up, gone_round_back, rooted
from tautrounds.skins import check_skin, rims
from tautrounds.words import gone_back


def pieces(drawing):
    """The ascending list of the pairs (number, rims) of the pieces that are no inner discs."""
    check_drawing(drawing)
    return sorted([(piece.number(), piece.rim_places()) for piece in pieces_of(drawing)])


def inner_discs(drawing):
    """How many inner discs there are, if no three chords cross at one point."""
    check_drawing(drawing)
    numbers = [piece.number() for piece in pieces_of(drawing)]
    return 1 - drawing.skin.bands + crossed_number(drawing) - sum(numbers)


def rim_rounds(skin):
    """The rims, and the rims turned about."""
    return rims(skin) + [gone_round_back(rim) for rim in rims(skin)]


def _is_filled(piece, around):
    """Whether it is a disc, or a ring that goes along one of the rims."""
    if len(piece.extra) == 1:
        return closed_up(piece.way_along(piece.extra[0])) in around
    return not piece.extra


def _free_in(piece, around):
    """A round within a piece that is no disc and no ring along a rim, whose root is no rim.

    Of two ways round in the piece, the one behind the other, and behind it turned about, at least one of these four
    makes such a round: if both ways go along rims, not both of the others do.
    """
    ways = [piece.way_along(strip) for strip in piece.extra[:2]]
    words = list(ways)
    if len(ways) == 2:
        words.extend([ways[0] + ways[1], ways[0] + gone_back(ways[1])])
    loops = [closed_up(word) for word in words]
    return [loop for loop in loops if rooted(loop)[0] not in around][0]


def _not_filled(skin, rounds):
    """The pieces of the best drawing that are no discs and no rings along rims."""
    around = rim_rounds(skin)
    return [piece for piece in pieces_of(best_drawing(skin, rounds)) if not _is_filled(piece, around)]


def fills(skin, rounds):
    """Whether each piece of the best drawing is a disc, or a ring along a rim."""
    check_skin(skin)
    check_rounds(skin, rounds)
    return not _not_filled(skin, rounds)


def free_round(skin, rounds):
    """A round whose root is no rim, nor one turned about, that crosses none of the rounds; None if there is none."""
    check_skin(skin)
    check_rounds(skin, rounds)
    left = _not_filled(skin, rounds)
    return _free_in(left[0], rim_rounds(skin)) if left else None
