"""Patterns: how the triangles of fans hang together; bridges and fans led by changes."""

from tautrounds.bases import undone_basis
from tautrounds.changes import ANY_MANY, both_ways, check_change
from tautrounds.errors import TooMany
from tautrounds.nets import Net, check_fan, fan_across
from tautrounds.slides import led_free
from tautrounds.triples import MOST_IN_BRIDGE, check_bands, check_bridge, plain_triple, triple_led
from tautrounds.words import cut_free, gone_back

MOST_BANDS = 4


def _sides_from(behind, at):
    """The three ways along the sides of a triangle, from this one on; behind tells the next way behind each."""
    return at, behind[at], behind[behind[at]]


def _listed(behind, at):
    """The first sides of all triangles, in the sequence in which a pattern lists them from this one on."""
    listed = [at]
    seen = {side: True for side in _sides_from(behind, at)}
    place = 0
    while place < len(listed):
        for side in _sides_from(behind, listed[place]):
            if side ^ 1 not in seen:
                listed.append(side ^ 1)
                seen.update({other: True for other in _sides_from(behind, side ^ 1)})
        place += 1
    return listed


def _told_from(behind, at):
    """The tuple that a choice of a triangle and its first side tells."""
    numbers = {}
    rows = []
    for first in _listed(behind, at):
        sides = [side // 2 for side in _sides_from(behind, first)]
        for side in sides:
            numbers.setdefault(side, len(numbers))
        rows.append(tuple([numbers[side] for side in sides]))
    return tuple(rows)


def _least_told(behind):
    """The least tuple of all choices."""
    return min([_told_from(behind, at) for at in range(len(behind))])


def pattern(skin, fan):
    """The pattern of a fan."""
    check_bands(skin)
    check_fan(skin, fan, None)
    return _least_told(Net(skin, fan).behind)


def symmetries(skin, fan):
    """How many choices of a triangle and its first side tell the pattern."""
    check_bands(skin)
    check_fan(skin, fan, None)
    behind = Net(skin, fan).behind
    told = [_told_from(behind, at) for at in range(len(behind))]
    return told.count(min(told))


def _behind_flip(behind, place):
    """What stands behind each way when a bridge is flipped; None if one triangle has it twice."""
    one, other = 2 * place, 2 * place + 1
    _, second, third = _sides_from(behind, one)
    if other in (second, third):
        return None
    _, fourth, last = _sides_from(behind, other)
    told = list(behind)
    for first, then in ((one, last), (last, second), (second, one), (other, third), (third, fourth), (fourth, other)):
        told[first] = then
    return told


def patterns(skin):
    """The ascending list of all patterns that fans of the skin have: flips lead from each to each."""
    check_bands(skin)
    if skin.bands > MOST_BANDS:
        raise TooMany(MOST_BANDS)
    start = Net(skin, fan_across(skin)).behind
    found = {_least_told(start): True}
    left = [start]
    while left:
        behind = left.pop()
        for place in range(len(behind) // 2):
            other = _behind_flip(behind, place)
            told = None if other is None else _least_told(other)
            if told is not None and told not in found:
                found[told] = True
                left.append(other)
    return sorted(found)


def led_triple(skin, images, bridge):
    """The bridge, however long, to which a change leads a bridge; both surely are such."""
    start, word, end = triple_led(skin, skin, images, bridge)
    return plain_triple(skin, start, word, end)


def led_bridge(skin, images, bridge):
    """The bridge to which a change leads a bridge."""
    check_bands(skin)
    check_change(skin, images)
    check_bridge(skin, bridge)
    return led_triple(skin, images, bridge)


def fan_led(skin, images, fan):
    """led_fan of a change and a fan that surely are such."""
    bridges = sorted([led_triple(skin, images, bridge) for bridge in fan])
    if max([len(word) for _, word, _ in bridges]) > MOST_IN_BRIDGE:
        raise TooMany(MOST_IN_BRIDGE)
    return bridges


def led_fan(skin, images, fan):
    """The fan to which a change leads a fan."""
    check_bands(skin)
    check_change(skin, images)
    check_fan(skin, fan, None)
    return fan_led(skin, images, fan)


def _words_ahead(net, listed):
    """For each way a word that leads to where it begins, from where the first of those listed begins.

    One goes along the sides of triangles, from each to those that were listed over its sides.
    """
    ahead = {listed[0]: ()}
    for first in listed:
        sides = _sides_from(net.behind, first)
        for side, then in zip(sides, sides[1:]):
            ahead[then] = ahead[side] + net.ways[side][1] + net.segments[side]
        for side in sides:
            if side ^ 1 in listed and side ^ 1 not in ahead:
                ahead[side ^ 1] = ahead[side] + net.ways[side][1]
    return ahead


def _loops_from(net, at):
    """Words of ways round, from where a way begins and back, of which all words from there come.

    Each goes over one of the bridges over which no triangle was listed. Of two nets of one pattern the words are as
    many, and stand in the same sequence.
    """
    listed = _listed(net.behind, at)
    ahead = _words_ahead(net, listed)
    met = {first // 2: True for first in listed[1:]}
    loops = []
    for first in listed:
        for side in _sides_from(net.behind, first):
            if side // 2 not in met:
                met[side // 2] = True
                loops.append(cut_free(ahead[side] + net.ways[side][1] + gone_back(ahead[side ^ 1])))
    return loops


def fan_changes(skin, one, other):
    """Changes that lead rims to rims forward and the bridges of one fan to those of the other, each once."""
    check_bands(skin)
    check_fan(skin, one, "one")
    check_fan(skin, other, "other")
    net, target = Net(skin, one), Net(skin, other)
    wanted = _told_from(net.behind, 0)
    # What makes each letter of the words round is led to what the words there make in the same way.
    makers = undone_basis(_loops_from(net, 0), ANY_MANY)
    changes = []
    for at in range(len(target.behind)):
        if _told_from(target.behind, at) == wanted:
            images = both_ways(_loops_from(target, at))
            changes.append(both_ways([led_free(images, maker) for maker in makers]))
    return changes
