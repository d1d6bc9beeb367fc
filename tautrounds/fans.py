"""Fans: bridges, as many as can be, no two of which need to cross; and the triangles that they cut out."""

from tautrounds.errors import BadFan
from tautrounds.given import is_list
from tautrounds.nets import Net, check_fan, fan_across, flips_toward, is_fit_fan
from tautrounds.overpasses import bridges_cross
from tautrounds.triples import check_bands, is_fit_bridge


def is_fan(skin, thing):
    """Of any value: whether it is a fan."""
    check_bands(skin)
    return is_fit_fan(skin, thing)


def first_fan(skin):
    """The fan of the bridges around the ends and of those from gap 0 across the disc."""
    check_bands(skin)
    return fan_across(skin)


def triangles(skin, fan):
    """The ascending list of the triangles, each by the places in the fan of its sides."""
    check_bands(skin)
    check_fan(skin, fan, None)
    return Net(skin, fan).triangles()


def _are_apart(skin, bridges):
    """Whether it is a list of unlike simple bridges, any two of which are apart."""
    if not is_list(bridges) or not all([is_fit_bridge(skin, bridge) for bridge in bridges]):
        return False
    if len(set(bridges)) < len(bridges):
        return False
    for place, bridge in enumerate(bridges):
        if any([bridges_cross(skin, bridge, other) for other in bridges[place:]]):
            return False
    return True


def completed(skin, bridges):
    """A fan with all of these bridges."""
    check_bands(skin)
    if not _are_apart(skin, bridges):
        raise BadFan("bridges")
    fan = fan_across(skin)
    for bridge in bridges:
        _, fan = flips_toward(skin, fan, bridge)
    return fan
