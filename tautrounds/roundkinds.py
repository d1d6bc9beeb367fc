"""The rounds of a bundle: of which kinds they are, and how many are of each, told by numbers alone."""

from tautrounds.chords import check_bundle, runs
from tautrounds.errors import BadNumber
from tautrounds.given import is_within
from tautrounds.peels import orbit_sums, packed, sum_with, unpacked
from tautrounds.skins import check_skin


class Strands:
    """All strands of a bundle, numbered band by band, each band's as they stand at its even end.

    pairings pair the strands that have a chord in common; rows tell what each strand adds to its round's numbers:
    itself, and the chord at each of its ends from which a chord leads on in the row.
    """

    def __init__(self, skin, numbers):
        self.skin = skin
        self.numbers = numbers
        self.starts = [sum(list(numbers[:band])) for band in range(skin.bands)]
        self.size = sum(list(numbers[:skin.bands]))
        self.pairings = []
        self.leading = []
        for one, first, other, start, many in runs(skin, numbers):
            low, turn = self._numbered(one, first, many)
            high, way = self._numbered(other, start, many)
            self.pairings.append((low, high, many, -turn * way))
            self.leading.append((low, low + many, self._heights_of(one, other)))
        self.rows = self._weights()

    def _numbered(self, place, first, many):
        """The least number of so many strands at an end, and 1 if they ascend counterclockwise, otherwise -1."""
        end = self.skin.row[place]
        start = self.starts[end // 2]
        if end % 2 == 0:
            return start + first, 1
        return start + self.numbers[end // 2] - first - many, -1

    def _heights_of(self, one, other):
        """What a chord between two ends adds to the numbers, packed."""
        tall = [1 if one < place <= other else 0 for place in range(2, len(self.skin.row) - 1)]
        return packed([0] * self.skin.bands + tall)

    def _weights(self):
        """The rows of weights of all strands, packed."""
        edges = set([0, self.size])
        for edge in self.starts:
            edges.add(edge)
        for low, high, _ in self.leading:
            edges.add(low)
            edges.add(high)
        places = sorted(edges)
        return [(end - start, self._weight_at(start)) for start, end in zip(places, places[1:])]

    def _weight_at(self, number):
        """What the strand of this number adds to the numbers of its round, packed."""
        ahead = [start <= number < start + many for start, many in zip(self.starts, self.numbers)]
        own = packed([1 if is_here else 0 for is_here in ahead] + [0] * (len(self.numbers) - self.skin.bands))
        parts = [own] + [tall for low, high, tall in self.leading if low <= number < high]
        return tuple([sum([part[at] for part in parts]) for at in range(len(own))])


def kinds_of(skin, numbers):
    """kinds of numbers, however great, that surely are those of a bundle."""
    strands = Strands(skin, numbers)
    found = orbit_sums(strands.size, strands.pairings, strands.rows)
    return sorted([(unpacked(worth, len(numbers)), many) for worth, many in found.items()])


def kinds(skin, numbers):
    """The ascending list of the pairs of the numbers of a round, and how many rounds of the bundle are of its kind."""
    check_skin(skin)
    check_bundle(skin, numbers, "numbers")
    return kinds_of(skin, numbers)


def rounds_many(skin, numbers):
    """How many rounds the bundle has."""
    check_skin(skin)
    check_bundle(skin, numbers, "numbers")
    return sum([many for _, many in kinds_of(skin, numbers)])


def round_there(skin, numbers, band, place):
    """The numbers of the round one strand of which stands at this place of the band's even end."""
    check_skin(skin)
    check_bundle(skin, numbers, "numbers")
    if not is_within(band, 0, skin.bands - 1):
        raise BadNumber("band")
    if not is_within(place, 0, numbers[band] - 1):
        raise BadNumber("place")
    strands = Strands(skin, numbers)
    worth = sum_with(strands.size, strands.pairings, strands.rows, strands.starts[band] + place)
    return unpacked(worth, len(numbers))
