"""The one drawing, told for any rounds, that has the fewest crossings."""

from tautrounds.drawings import Drawing, strands_along
from tautrounds.lines import letter_on
from tautrounds.rounds import check_rounds
from tautrounds.skins import check_skin


def _turns(skin, loop, place, way, far):
    """How far counterclockwise from where it comes in the line leaves, in each of the next discs.

    The first disc is that behind the strand at place, as one reads this way; there are as many as far tells.
    """
    turns = []
    for step in range(far):
        come = letter_on(loop, place, way, step) ^ 1
        leave = letter_on(loop, place, way, step + 1)
        turns.append((skin.places[leave] - skin.places[come]) % len(skin.row))
    return turns


def _standing(skin, loop, place, far):
    """What tells where in its row the strand stands: lists of it ascend as the strands of the row do.

    What stands nearer decides ahead of what stands farther, and the side of the even end ahead of that of the odd one.
    """
    way = 1 if loop[place] % 2 == 0 else -1
    to_odd = _turns(skin, loop, place, way, far)
    to_even = _turns(skin, loop, place, -way, far)
    return [(-back, on) for back, on in zip(to_even, to_odd)]


def _alike_groups(strands, standings):
    """Strands side by side of which one stands just like the other, each such group as a list."""
    groups = []
    for strand in strands:
        if groups and standings[groups[-1][-1]] == standings[strand]:
            groups[-1].append(strand)
        else:
            groups.append([strand])
    return groups


def _row(skin, rounds, band):
    """The row of a band in the best drawing."""
    # Two lines that are alike for more bands than both rounds have letters are alike for ever.
    far = max([len(loop) for loop in rounds], default=0)
    strands = strands_along(rounds, band)
    standings = {(index, place): _standing(skin, rounds[index], place, far) for index, place in strands}
    strands = sorted(strands, key=lambda strand: (standings[strand], strand))
    row = []
    for group in _alike_groups(strands, standings):
        index, place = group[0]
        row.extend(group if rounds[index][place] % 2 == 0 else group[::-1])
    return row


def best_rows(skin, rounds):
    """The rows of the best drawing of rounds, however many."""
    return [_row(skin, rounds, band) for band in range(skin.bands)]


def best_drawing(skin, rounds):
    """The Drawing with the fewest crossings, of all together and of each two."""
    check_skin(skin)
    check_rounds(skin, rounds)
    return Drawing(skin, rounds, best_rows(skin, rounds))
