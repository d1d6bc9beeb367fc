"""Ways from rim to rim, told by triples (start, word, end): gap start, the letters of a word, gap end.

Gap i is the place at the disc's edge right ahead of e(i).
"""

from tautrounds.errors import BadBridge, BadSkin
from tautrounds.given import is_tuple, is_within
from tautrounds.skins import check_skin
from tautrounds.slides import led_free
from tautrounds.words import cut_free, gone_back, is_any_word

MOST_IN_BRIDGE = 40


def gap_behind(skin, end):
    """The gap right behind an end."""
    return (skin.places[end] + 1) % len(skin.row)


def rim_from(skin, gap):
    """The letters of the rim at a gap, as one reads from there on, once round."""
    letters = [skin.row[gap]]
    gap = gap_behind(skin, letters[0] ^ 1)
    while skin.row[gap] != letters[0]:
        letters.append(skin.row[gap])
        gap = gap_behind(skin, letters[-1] ^ 1)
    return tuple(letters)


def _along_rim(skin, start, word):
    """The way that begins at a gap, without the letters in front that only go along the rim there."""
    for at, letter in enumerate(word):
        if letter == skin.row[start]:
            start = gap_behind(skin, letter ^ 1)
        elif letter == skin.row[start - 1]:
            start = skin.places[letter ^ 1]
        else:
            return start, word[at:]
    return start, ()


def _across_disc(skin, one, other):
    """All triples without letters that are led to the one from gap to gap: two, or four around the ends of a band."""
    pairs = [(one, other)]
    many = len(skin.row)
    for gap, behind in ((one, other), (other, one)):
        if (gap + 1) % many == behind:
            beyond = skin.row[gap] ^ 1
            pairs.append((skin.places[beyond], gap_behind(skin, beyond)))
    return [(start, (), end) for start, end in pairs] + [(end, (), start) for start, end in pairs]


def plain_triple(skin, start, word, end):
    """The plain triple of a way from rim to rim, however long; None if it only goes along a rim."""
    start, word = _along_rim(skin, start, cut_free(word))
    end, back = _along_rim(skin, end, gone_back(word))
    if back:
        return min((start, gone_back(back), end), (end, back, start))
    if start == end:
        return None
    return min(_across_disc(skin, start, end))


def gap_led(skin, target, images, gap):
    """Where images lead a gap of a skin: the pair of a gap of the target and a word, which leads from there to it.

    Images lead the rim at the gap to a word, a rim of the target from some gap on, or its undone, and the word undone.
    """
    around = led_free(images, rim_from(skin, gap))
    cut = 0
    while around[cut] == around[len(around) - 1 - cut] ^ 1:
        cut += 1
    inner = around[cut:len(around) - cut]
    spot = target.places[inner[0]]
    if rim_from(target, spot) != inner:
        spot = target.places[gone_back(inner)[0]]
    return spot, gone_back(around[:cut])


def triple_led(skin, target, images, triple):
    """The triple, of the target, to which images lead a way from rim to rim of a skin; its word is free."""
    start, word, end = triple
    spot, ahead = gap_led(skin, target, images, start)
    gap, last = gap_led(skin, target, images, end)
    return spot, cut_free(ahead + led_free(images, word) + gone_back(last)), gap


def check_bands(skin):
    """BadSkin(None) unless it is a Skin, BadSkin("bands") unless it has two bands or more."""
    check_skin(skin)
    if skin.bands < 2:
        raise BadSkin("bands")


def is_gap(skin, thing):
    """Whether it is one of the skin's gaps."""
    return is_within(thing, 0, len(skin.row) - 1)


def is_plain_triple(skin, thing):
    """Whether it is the plain triple of a bridge, however long."""
    if not is_tuple(thing) or len(thing) != 3 or not is_gap(skin, thing[0]) or not is_gap(skin, thing[2]):
        return False
    return is_any_word(skin, thing[1]) and plain_triple(skin, thing[0], thing[1], thing[2]) == thing


def is_fit_bridge(skin, thing):
    """Whether it is a bridge within the limits, of a skin that surely has two bands or more."""
    return is_plain_triple(skin, thing) and len(thing[1]) <= MOST_IN_BRIDGE


def check_bridge(skin, bridge):
    """BadBridge unless it is a bridge within the limits."""
    if not is_fit_bridge(skin, bridge):
        raise BadBridge("the plain triple of a bridge of at most 40 letters is wanted")
