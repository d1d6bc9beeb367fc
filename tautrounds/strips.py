"""Bundles beside other rounds: how often these cross them, and the rims among their rounds."""

from tautrounds.chords import check_bundle, chord_numbers, numbers_drawn
from tautrounds.passages import bundle_weave
from tautrounds.rounds import check_round
from tautrounds.skins import check_skin, rims


def crossed_by(skin, numbers, loop):
    """How often a round crosses the rounds of a bundle."""
    check_skin(skin)
    check_bundle(skin, numbers, "numbers")
    check_round(skin, loop)
    return bundle_weave(skin, numbers).crossed_round(loop)


def _rim_times(skin, numbers):
    """rim_times of numbers that surely are those of a bundle."""
    if skin.bands == 1:
        return [numbers[0], numbers[0]]
    joined = chord_numbers(skin, numbers)
    last = len(skin.row) - 1
    cut = [joined.get((0, last), 0)] + [joined.get((at, at + 1), 0) for at in range(last)]
    return [min([cut[skin.places[letter]] for letter in rim]) for rim in rims(skin)]


def rim_times(skin, numbers):
    """For each rim how many rounds of the bundle are it, or it turned about."""
    check_skin(skin)
    check_bundle(skin, numbers, "numbers")
    return _rim_times(skin, numbers)


def without_rims(skin, numbers):
    """The numbers of the bundle without the rounds that are rims, or rims turned about."""
    check_skin(skin)
    check_bundle(skin, numbers, "numbers")
    if skin.bands == 1:
        # Both rims are one round here, gone in both directions.
        return (0,)
    left = numbers
    for rim, times in zip(rims(skin), _rim_times(skin, numbers)):
        left = [number - times * own for number, own in zip(left, numbers_drawn(skin, [rim]))]
    return tuple(left)
