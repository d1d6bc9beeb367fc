"""Ways through the tree of discs, and how often strands that do not cross one another must cross them.

Places round the disc are numbered counterclockwise: 2 * i is gap i, right ahead of e(i), and 2 * i + 1 is e(i).

A passage through a disc, or through several, is told by six numbers of strands: those that were beside the way and
leave it to the left, go on beside it, leave it to the right, come beside it from the left, come from the right, and
cross it. Going along the way the strands beside it stand, from the left to the right, in this sequence.
"""

from tautrounds.chords import runs


def _in_both(low, high, start, end):
    """How many numbers are from low on, below high, and from start on, below end, too."""
    return max(0, min(high, end) - max(low, start))


def joined_passages(one, other):
    """The passage through one and then through other."""
    _, on, _, left, right, _ = one
    to_left, goes, to_right, _, _, _ = other
    come = left + on
    split = to_left + goes
    most = split + to_right
    return (
        one[0] + _in_both(left, come, 0, to_left),
        _in_both(left, come, to_left, split),
        one[2] + _in_both(left, come, split, most),
        other[3] + _in_both(0, left, to_left, split),
        other[4] + _in_both(come, come + right, to_left, split),
        one[5] + other[5] + _in_both(0, left, split, most) + _in_both(come, come + right, 0, to_left),
    )


def many_passages(one, times):
    """The passage so many times, once or more, one behind the other."""
    told = None
    while times > 0:
        if times % 2 == 1:
            told = one if told is None else joined_passages(told, one)
        one = joined_passages(one, one)
        times = times // 2
    return told


class Weave:
    """Strands that do not cross: pieces tells how many of them lead through the disc between two places of it."""

    def __init__(self, skin, pieces):
        self.skin = skin
        self.pieces = pieces
        self._known = {}

    def end_place(self, end):
        """The place of an end."""
        return 2 * self.skin.places[end] + 1

    def _side(self, start, end, place):
        """0 if a place is to the left of who goes through the disc, 1 if it is one of the two, 2 if to the right."""
        if place in (start, end):
            return 1
        many = 2 * len(self.skin.row)
        return 2 if (place - start) % many < (end - start) % many else 0

    def through(self, start, end):
        """The passage through a disc from one place to another one."""
        if (start, end) not in self._known:
            self._known[(start, end)] = self._passage(start, end)
        return self._known[(start, end)]

    def _passage(self, start, end):
        """The passage through a disc, counted."""
        counts = [0] * 6
        for one, other, many in self.pieces:
            places = (one, other)
            if start in places:
                beside = other if one == start else one
                counts[self._side(start, end, beside)] += many
            elif end in places:
                beside = other if one == end else one
                counts[3 if self._side(start, end, beside) == 0 else 4] += many
            elif self._side(start, end, one) != self._side(start, end, other):
                counts[5] += many
        return tuple(counts)

    def turning(self, letter, behind):
        """The passage through the disc between two letters."""
        return self.through(self.end_place(letter ^ 1), self.end_place(behind))

    def along(self, letters):
        """The passage through the discs between letters, two or more."""
        told = self.turning(letters[0], letters[1])
        for at in range(1, len(letters) - 1):
            told = joined_passages(told, self.turning(letters[at], letters[at + 1]))
        return told

    def crossed_on(self, start, word, end):
        """How many strands cross a way from gap to gap along the letters of a free word.

        Strands that begin or end at one gap with it don't cross it there. All that is beside it came to it: so of
        the six numbers the last three are all that need be kept.
        """
        if not word:
            return self.through(2 * start, 2 * end)[5]
        _, _, _, left, right, crossed = self.through(2 * start, self.end_place(word[0]))
        places = [self.end_place(letter ^ 1) for letter in word]
        leaves = [self.end_place(letter) for letter in word[1:]] + [2 * end]
        for place, leave in zip(places, leaves):
            to_left, on, to_right, from_left, from_right, over = self.through(place, leave)
            split = to_left + on
            most = split + to_right
            crossed += over + max(0, left - split) + max(0, to_left - most + right)
            left = from_left + max(0, min(left, split) - to_left)
            right = from_right + max(0, min(right, most - to_left) - to_right)
        return crossed

    def crossed_round(self, loop):
        """How many strands cross a way that goes on and on along a round, for once round it.

        As often as strands go along the way it is the same each time: how it begins plays no part then.
        """
        letters = loop + loop[:1]
        once = self.along(letters)
        often = once
        for _ in range(sum([many for _, _, many in self.pieces]).bit_length() + 1):
            often = joined_passages(often, often)
        return joined_passages(often, once)[5] - often[5]


def bundle_weave(skin, numbers):
    """The strands of a bundle."""
    return Weave(skin, [(2 * one + 1, 2 * other + 1, many) for one, _, other, _, many in runs(skin, numbers)])


def bridge_weave(skin, bridge):
    """The strand of a bridge that surely is simple."""
    start, word, end = bridge
    places = [2 * start]
    for letter in word:
        places.extend([2 * skin.places[letter] + 1, 2 * skin.places[letter ^ 1] + 1])
    places.append(2 * end)
    return Weave(skin, [(places[at], places[at + 1], 1) for at in range(0, len(places), 2)])
