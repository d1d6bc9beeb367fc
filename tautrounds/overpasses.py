"""How often bridges and rounds, of any kind, must cross: lines and bridges laid into the tree of discs.

Places round the disc are numbered as in passages.py. Who goes from the left of a bridge to its right comes from its
left into one of its discs, goes along with it, forward or backward, through some of them, or just one, and leaves to
its right.
"""

from tautrounds.rounds import check_round
from tautrounds.triples import check_bands, check_bridge
from tautrounds.words import gone_back


def _discs_of_round(skin, loop):
    """The pairs of the places at which a line comes into each disc and leaves it, once round."""
    places = [2 * place + 1 for place in skin.places]
    return [(places[loop[at - 1] ^ 1], places[letter]) for at, letter in enumerate(loop)]


def _discs_of_bridge(skin, bridge):
    """The same pairs of a bridge; where it begins and ends the places are gaps."""
    start, word, end = bridge
    places = [2 * place + 1 for place in skin.places]
    comes = [2 * start] + [places[letter ^ 1] for letter in word]
    return list(zip(comes, [places[letter] for letter in word] + [2 * end]))


class Laid:
    """A bridge laid into the tree: for each of its discs where it comes in and leaves, and what lies on which side."""

    def __init__(self, skin, bridge):
        self.many = 2 * len(skin.row)
        self.discs = _discs_of_bridge(skin, bridge)
        self.rights = [self._right_of(come, leave) for come, leave in self.discs]

    def _right_of(self, come, leave):
        """For each place whether it is on the right; None for the two at which the bridge comes in and leaves."""
        sides = [(place - come) % self.many < (leave - come) % self.many for place in range(self.many)]
        sides[come] = None
        sides[leave] = None
        return sides

    def is_crossed_on(self, discs, at, number, is_closed):
        """Whether who comes from the left into the bridge's disc at at, by its own disc number, leaves to the right.

        discs are those that it goes through, round and round if is_closed.
        """
        come, leave = discs[number]
        if self.rights[at][come] is not False:
            return False
        side = self.rights[at][leave]
        while side is None:
            step = 1 if leave == self.discs[at][1] else -1
            at += step
            number += 1
            if at in (-1, len(self.discs)):
                # Both end at one spot.
                return False
            leave = discs[number % len(discs) if is_closed else number][1]
            side = self.rights[at][leave]
        return side

    def crossed_by(self, discs, is_closed):
        """How often who goes through these discs crosses the bridge from the left to the right."""
        starts = [(at, number) for at in range(len(self.discs)) for number in range(len(discs))]
        return len([start for start in starts if self.is_crossed_on(discs, start[0], start[1], is_closed)])


def overpasses(skin, bridge, loop):
    """How often a bridge and a round cross at least."""
    check_bands(skin)
    check_bridge(skin, bridge)
    check_round(skin, loop)
    laid = Laid(skin, bridge)
    ways = [_discs_of_round(skin, loop), _discs_of_round(skin, gone_back(loop))]
    return sum([laid.crossed_by(discs, True) for discs in ways])


def bridges_cross(skin, one, other):
    """bridges_crossed of bridges, however long, that surely are such."""
    start, word, end = other
    laid = Laid(skin, one)
    ways = [_discs_of_bridge(skin, other), _discs_of_bridge(skin, (end, gone_back(word), start))]
    return sum([laid.crossed_by(discs, False) for discs in ways])


def bridges_crossed(skin, one, other):
    """How often two bridges cross at least."""
    check_bands(skin)
    check_bridge(skin, one)
    check_bridge(skin, other)
    return bridges_cross(skin, one, other)


def own_overpasses(skin, bridge):
    """How often a bridge crosses itself at least: each pair of its layings was counted from either of them."""
    check_bands(skin)
    check_bridge(skin, bridge)
    return bridges_cross(skin, bridge, bridge) // 2
