"""Linked pairs of lines: those that must cross, and the fewest crossings that they tell."""

from tautrounds.lines import common_stretch, letter_on
from tautrounds.rounds import check_round, check_rounds, rooted
from tautrounds.skins import by_turns, check_skin


def _linked_along(skin, one, place, other, spot):
    """The length of the stretch that begins with these strands, if its lines are linked; None otherwise."""
    if one[place] // 2 != other[spot] // 2:
        return None
    way = 1 if one[place] == other[spot] else -1
    if letter_on(one, place, 1, -1) == letter_on(other, spot, way, -1):
        return None
    _, length, is_linked = common_stretch(skin, one, place, other, spot)
    return length if is_linked else None


def _linked_across(skin, one, place, other, spot):
    """Whether the lines that come into one disc with these strands have no band there in common, and cross."""
    ends = [one[place] ^ 1, one[(place + 1) % len(one)], other[spot] ^ 1, other[(spot + 1) % len(other)]]
    if len(set(ends)) < 4:
        return False
    first, second, third, fourth = [skin.places[end] for end in ends]
    return by_turns(first, second, third, fourth)


def pairs_of(skin, one, other):
    """linked_pairs of rounds, however long, that surely are such."""
    found = []
    for place in range(len(one)):
        for spot in range(len(other)):
            if _linked_across(skin, one, place, other, spot):
                found.append((place, spot, 0))
            length = _linked_along(skin, one, place, other, spot)
            if length is not None:
                found.append((place, spot, length))
    return sorted(found)


def linked_pairs(skin, one, other):
    """The ascending list of the triples (place, spot, length) of the linked pairs of two rounds."""
    check_skin(skin)
    check_round(skin, one)
    check_round(skin, other)
    return pairs_of(skin, one, other)


def _taken_otherwise(loop, pair):
    """The triple of a linked pair of lines of one round, with the other line taken for the first one."""
    place, spot, length = pair
    if length == 0 or loop[place] == loop[spot]:
        return spot, place, length
    return (spot - length + 1) % len(loop), (place + length - 1) % len(loop), length


def _own_pairs(skin, loop):
    """own_pairs of a round that surely is one."""
    found = set()
    for pair in pairs_of(skin, loop, loop):
        found.add(min(pair, _taken_otherwise(loop, pair)))
    return sorted(found)


def own_pairs(skin, loop):
    """The ascending list of the linked pairs of two lines of one round, each by its lesser triple."""
    check_skin(skin)
    check_round(skin, loop)
    return _own_pairs(skin, loop)


def own_number(skin, loop):
    """own_crossings of a round, however long, that surely is one."""
    return len(_own_pairs(skin, loop)) + rooted(loop)[1] - 1


def crossings(skin, one, other):
    """How often two rounds cross at least."""
    check_skin(skin)
    check_round(skin, one)
    check_round(skin, other)
    return len(pairs_of(skin, one, other))


def own_crossings(skin, loop):
    """How often a round crosses itself at least."""
    check_skin(skin)
    check_round(skin, loop)
    return own_number(skin, loop)


def fewest(skin, rounds):
    """How many crossings rounds have at least, of each one with itself and of each two, together."""
    check_skin(skin)
    check_rounds(skin, rounds)
    many = 0
    for place, loop in enumerate(rounds):
        many += own_number(skin, loop)
        for other in rounds[place + 1:]:
            many += len(pairs_of(skin, loop, other))
    return many
