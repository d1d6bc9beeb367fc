"""Drawings of rounds: in which sequence their strands stand along each band, and which chords then cross."""

from tautrounds.errors import BadDrawing
from tautrounds.given import is_list, is_number, is_tuple
from tautrounds.rounds import check_rounds
from tautrounds.skins import by_turns, check_skin


def all_strands(rounds):
    """The ascending list of the strands of a list of rounds."""
    return [(index, place) for index, loop in enumerate(rounds) for place in range(len(loop))]


def strands_along(rounds, band):
    """The ascending list of the strands along a band."""
    return [(index, place) for index, place in all_strands(rounds) if rounds[index][place] // 2 == band]


def _is_strand(thing):
    """Whether it is a pair of numbers."""
    return is_tuple(thing) and len(thing) == 2 and is_number(thing[0]) and is_number(thing[1])


def _is_row_of(rounds, band, row):
    """Whether it is a list of all strands along the band, each once."""
    if not is_list(row) or not all([_is_strand(strand) for strand in row]):
        return False
    return sorted(row) == strands_along(rounds, band)


def _are_rows(skin, rounds, rows):
    """Whether it is a list with such a row for each band."""
    if not is_list(rows) or len(rows) != skin.bands:
        return False
    return all([_is_row_of(rounds, band, row) for band, row in enumerate(rows)])


class Drawing:
    """Rounds on a skin, with a row for each band: its strands, counterclockwise at its even end."""

    def __init__(self, skin, rounds, rows):
        check_skin(skin)
        check_rounds(skin, rounds)
        if not _are_rows(skin, rounds, rows):
            raise BadDrawing("rows")
        self.skin = skin
        self.rounds = tuple(rounds)
        self.rows = tuple([tuple(row) for row in rows])

    def __eq__(self, other):
        if not isinstance(other, Drawing):
            return False
        return self.skin == other.skin and self.rounds == other.rounds and self.rows == other.rows


def check_drawing(drawing):
    """BadDrawing(None) unless it is a Drawing."""
    if not isinstance(drawing, Drawing):
        raise BadDrawing(None)


class Layout:
    """The rows of a drawing, to be looked at and to be changed; spots tells where in its row each strand stands.

    A point of the disc's edge is told by the place of its end and, at this end, by how far it is
    counterclockwise: an odd end has the strands of its band in the other direction.
    """

    def __init__(self, drawing):
        self.skin = drawing.skin
        self.rounds = drawing.rounds
        self.rows = [list(row) for row in drawing.rows]
        self.spots = {strand: at for row in drawing.rows for at, strand in enumerate(row)}

    def letter(self, strand):
        """The letter of a strand."""
        index, place = strand
        return self.rounds[index][place]

    def on(self, strand, steps):
        """The strand of the same round so many places on."""
        index, place = strand
        return index, (place + steps) % len(self.rounds[index])

    def point(self, strand, end):
        """Where round the disc a strand stands at an end of its band."""
        spot = self.spots[strand]
        return self.skin.places[end], spot if end % 2 == 0 else -spot

    def chord(self, strand):
        """The two points of the chord that begins with this strand."""
        behind = self.on(strand, 1)
        return self.point(strand, self.letter(strand) ^ 1), self.point(behind, self.letter(behind))

    def chords_cross(self, one, other):
        """Whether the chords that begin with two strands cross."""
        first, second = self.chord(one)
        third, fourth = self.chord(other)
        return by_turns(first, second, third, fourth)

    def begun(self, strand, end):
        """The strand with which the chord begins that this strand has at an end of its band."""
        return self.on(strand, -1) if self.letter(strand) == end else strand

    def cross_at(self, one, other, end):
        """Whether two strands along one band have chords that cross at this end of it."""
        return self.chords_cross(self.begun(one, end), self.begun(other, end))

    def swap(self, band, place):
        """Exchanges the strands at place and place + 1 of the band's row."""
        row = self.rows[band]
        row[place], row[place + 1] = row[place + 1], row[place]
        self.spots[row[place]] = place
        self.spots[row[place + 1]] = place + 1


def _crossed_pairs(drawing):
    """The ascending list of the pairs of strands whose chords cross."""
    layout = Layout(drawing)
    strands = all_strands(drawing.rounds)
    chords = {strand: layout.chord(strand) for strand in strands}
    found = []
    for at, one in enumerate(strands):
        first, second = chords[one]
        for other in strands[at + 1:]:
            third, fourth = chords[other]
            if by_turns(first, second, third, fourth):
                found.append((one, other))
    return found


def crossed(drawing):
    """The ascending list of the pairs of strands such that the chords that begin with them cross."""
    check_drawing(drawing)
    return _crossed_pairs(drawing)


def crossed_number(drawing):
    """How many chords cross, each two of them counted once."""
    check_drawing(drawing)
    return len(_crossed_pairs(drawing))
