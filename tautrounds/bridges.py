"""Bridges: ways from rim to rim, each told by its plain triple."""

from tautrounds.errors import BadNumber
from tautrounds.skins import rims
from tautrounds.triples import check_bands, check_bridge, is_fit_bridge, is_gap, plain_triple
from tautrounds.words import check_word


def bridge_of(skin, start, word, end):
    """The plain triple of the bridge from gap start along the letters of a word to gap end; None if it is none."""
    check_bands(skin)
    if not is_gap(skin, start):
        raise BadNumber("start")
    check_word(skin, word)
    if not is_gap(skin, end):
        raise BadNumber("end")
    return plain_triple(skin, start, word, end)


def is_bridge(skin, thing):
    """Of any value: whether it is a bridge within the limits."""
    check_bands(skin)
    return is_fit_bridge(skin, thing)


def rims_at(skin, bridge):
    """The pair of the indexes of the rims at the bridge's ends, the lesser one first."""
    check_bands(skin)
    check_bridge(skin, bridge)
    around = rims(skin)
    one, other = [[skin.row[gap] in rim for rim in around].index(True) for gap in (bridge[0], bridge[2])]
    return min(one, other), max(one, other)
