"""Flips: one bridge of a fan goes, the other diagonal of its four-sided piece comes."""

from tautrounds.errors import BadNumber, NotNow, NotSimple, TooMany
from tautrounds.given import is_list, is_within
from tautrounds.nets import Net, check_fan, flips_between, with_flip
from tautrounds.overpasses import bridges_cross
from tautrounds.passages import bridge_weave
from tautrounds.triples import MOST_IN_BRIDGE, check_bands, check_bridge, is_plain_triple

MOST_FANS = 200


def flip_of(skin, fan, place):
    """The pair that flipped tells, of a fan that surely is one."""
    if not is_within(place, 0, len(fan) - 1):
        raise BadNumber("place")
    bridge = Net(skin, fan).across(place)
    if bridge is None:
        raise NotNow("one triangle has this bridge for two of its sides")
    if len(bridge[1]) > MOST_IN_BRIDGE:
        raise TooMany(MOST_IN_BRIDGE)
    return with_flip(fan, place, bridge), bridge


def flipped(skin, fan, place):
    """The pair of the fan behind the flip of the bridge at this place, and the bridge that is new in it."""
    check_bands(skin)
    check_fan(skin, fan, None)
    return flip_of(skin, fan, place)


def nearer(skin, fan, bridge):
    """The places whose flip puts in what the bridge crosses less often."""
    check_bands(skin)
    check_fan(skin, fan, None)
    check_bridge(skin, bridge)
    if bridges_cross(skin, bridge, bridge):
        raise NotSimple("a bridge that need not cross itself is wanted")
    weave = bridge_weave(skin, bridge)
    net = Net(skin, fan)
    found = []
    for place, old in enumerate(fan):
        new = net.across(place)
        if new is not None and weave.crossed_on(new[0], new[1], new[2]) < weave.crossed_on(old[0], old[1], old[2]):
            found.append(place)
    return found


def _check_both(skin, one, other):
    """BadSkin, BadFan unless both are fans of the skin."""
    check_bands(skin)
    check_fan(skin, one, "one")
    check_fan(skin, other, "other")


def flip_way(skin, one, other):
    """The bridges flipped, one behind the other, on a way from one fan to the other."""
    _check_both(skin, one, other)
    return [net.bridges[place] for net, place, _ in flips_between(skin, one, other)]


def is_flip_way(skin, one, other, thing):
    """Of any value: whether it is such a list of bridges."""
    _check_both(skin, one, other)
    if not is_list(thing):
        return False
    fan = list(one)
    for bridge in thing:
        if not is_plain_triple(skin, bridge) or bridge not in fan:
            return False
        place = fan.index(bridge)
        new = Net(skin, fan).across(place)
        if new is None:
            return False
        fan = with_flip(fan, place, new)
    return fan == list(other)


def _fans_beside(skin, fan):
    """The fans one flip away."""
    net = Net(skin, fan)
    news = [(place, net.across(place)) for place in range(len(fan))]
    return [tuple(with_flip(fan, place, new)) for place, new in news if new is not None]


def fewest_flips(skin, one, other):
    """How many flips a shortest way from one fan to the other has."""
    _check_both(skin, one, other)
    wanted = tuple(other)
    reached = {tuple(one): True}
    last = [tuple(one)]
    many = 0
    while wanted not in reached:
        if len(reached) > MOST_FANS:
            raise TooMany(MOST_FANS)
        beside = {new: True for fan in last for new in _fans_beside(skin, fan) if new not in reached}
        last = list(beside)
        reached.update(beside)
        many += 1
    return many
