"""Skins: discs with bands glued to their edges, told by the sequence of the ends round the disc."""

from tautrounds.errors import BadNumber, BadSkin
from tautrounds.given import is_list, is_number, is_within


def is_row(row):
    """Whether it is the sequence of the ends of one to six bands."""
    if not is_list(row) or len(row) not in (2, 4, 6, 8, 10, 12):
        return False
    return all([is_number(end) for end in row]) and sorted(row) == list(range(len(row)))


class Skin:
    """A disc with flat bands; places tells where in the row each end stands."""

    def __init__(self, row):
        if not is_row(row):
            raise BadSkin("row")
        start = row.index(0)
        self.row = tuple(row[start:]) + tuple(row[:start])
        self.bands = len(row) // 2
        self.places = tuple([self.row.index(end) for end in range(len(row))])

    def __eq__(self, other):
        return isinstance(other, Skin) and self.row == other.row


def check_skin(skin):
    """BadSkin(None) unless it is a Skin."""
    if not isinstance(skin, Skin):
        raise BadSkin(None)


def is_end(skin, thing):
    """Whether it is one of the skin's ends, and so one of its letters."""
    return is_within(thing, 0, 2 * skin.bands - 1)


def end_behind(skin, end, steps):
    """The end that stands so many steps behind this one, counterclockwise."""
    return skin.row[(skin.places[end] + steps) % len(skin.row)]


def stands_ahead(skin, start, one, other):
    """Whether one comes ahead of other as one goes counterclockwise from start."""
    many = len(skin.row)
    first = skin.places[start]
    return (skin.places[one] - first) % many < (skin.places[other] - first) % many


def by_turns(one, end, other, tail):
    """Whether of four unlike points of a circle the first two part the other two.

    Points are told by anything that ascends once round the circle.
    """
    low = min(one, end)
    high = max(one, end)
    return (low < other < high) != (low < tail < high)


def next_end(skin, end):
    """The end that stands behind this one in the sequence."""
    check_skin(skin)
    if not is_end(skin, end):
        raise BadNumber("end")
    return end_behind(skin, end, 1)


def least_turn(word):
    """Of the turns of a word with letters the least one.

    Two turns, by where they start, are read side by side: the one that is greater at last is out, and so are those
    that start within what was read of it. So it takes steps as the word has letters, which may be very many.
    """
    many = len(word)
    one, other, alike = 0, 1, 0
    while one < many and other < many and alike < many:
        first, second = word[(one + alike) % many], word[(other + alike) % many]
        if first == second:
            alike += 1
            continue
        if first > second:
            one += alike + 1
        else:
            other += alike + 1
        if one == other:
            other += 1
        alike = 0
    start = min(one, other)
    return word[start:] + word[:start]


def _rim_from(skin, start):
    """The letters of a rim, as one reads from start on."""
    rim = [start]
    end = end_behind(skin, start ^ 1, 1)
    while end != start:
        rim.append(end)
        end = end_behind(skin, end ^ 1, 1)
    return tuple(rim)


def rims(skin):
    """The ascending list of the skin's rims, each as a round."""
    check_skin(skin)
    found = []
    left = list(skin.row)
    while left:
        rim = _rim_from(skin, left[0])
        found.append(least_turn(rim))
        left = [end for end in left if end not in rim]
    return sorted(found)


def genus(skin):
    """How many handles the skin has."""
    check_skin(skin)
    return (skin.bands + 1 - len(rims(skin))) // 2


def mirrored(skin):
    """The Skin whose row stands in the other direction."""
    check_skin(skin)
    return Skin(skin.row[::-1])


def is_renaming(skin, letters):
    """Whether it is a list of all ends that keeps the two ends of a band together."""
    if not is_list(letters) or len(letters) != len(skin.row):
        return False
    if not all([is_number(end) for end in letters]) or sorted(letters) != list(range(len(letters))):
        return False
    return all([letters[end ^ 1] == letters[end] ^ 1 for end in range(len(letters))])


def renamed(skin, letters):
    """The Skin in whose row letters[k] stands in the place of k."""
    check_skin(skin)
    if not is_renaming(skin, letters):
        raise BadNumber("letters")
    return Skin([letters[end] for end in skin.row])


def _row_read_from(skin, start):
    """The least row that a renaming can make of this one, read from its place start on.

    The first end of each band that one meets gets the least name left: no other sequence of names is less.
    """
    names = {}
    for at in range(len(skin.row)):
        end = end_behind(skin, skin.row[start], at)
        if end not in names:
            names[end] = len(names)
            names[end ^ 1] = names[end] + 1
    return [names[end_behind(skin, skin.row[start], at)] for at in range(len(skin.row))]


def least_skin(skin):
    """Of all renamed skins the one with the least row."""
    check_skin(skin)
    return Skin(min([_row_read_from(skin, start) for start in range(len(skin.row))]))
