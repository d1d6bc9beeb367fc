"""Bundles led by slides, changes and twists: told by numbers alone, however great.

A number of a bundle is how often the bundle crosses a way from rim to rim. Where the bundle is led it is how often
the bundle itself crosses the way that is led there.
"""

from tautrounds.best import best_drawing
from tautrounds.brackets import from_place
from tautrounds.changes import check_change, undone_images
from tautrounds.chords import check_bundle, told_numbers
from tautrounds.drawings import Layout, all_strands
from tautrounds.errors import BadNumber
from tautrounds.given import is_within
from tautrounds.passages import bundle_weave, joined_passages, many_passages
from tautrounds.rounds import check_round
from tautrounds.skins import check_skin
from tautrounds.slides import slid
from tautrounds.triples import triple_led
from tautrounds.twists import check_simple
from tautrounds.words import gone_back

MOST_TWISTS = 10 ** 12


def _ways_of_numbers(skin):
    """The pairs of gaps between which a bundle crosses the disc as often as its numbers tell."""
    around = [(skin.places[end], skin.places[end] + 1) for end in range(0, len(skin.row), 2)]
    return around + [(0, place) for place in range(2, len(skin.row) - 1)]


def _led_back(skin, target, images, numbers):
    """The numbers on the target of a bundle of the skin: images lead from the target back to the skin."""
    weave = bundle_weave(skin, numbers)
    told = []
    for start, end in _ways_of_numbers(target):
        gap, word, spot = triple_led(target, skin, images, (start, (), end % len(target.row)))
        told.append(weave.crossed_on(gap, word, spot))
    return told_numbers(told)


def slid_bundle(skin, end, side, numbers):
    """The numbers, on the skin behind the slide, of the bundle to which the slide leads this one."""
    target, _ = slid(skin, end, side)
    check_bundle(skin, numbers, "numbers")
    _, back = slid(target, end, -side)
    return _led_back(skin, target, back, numbers)


def numbers_led(skin, images, numbers):
    """led_bundle of a change and numbers that surely are such."""
    return _led_back(skin, skin, undone_images(images), numbers)


def led_bundle(skin, images, numbers):
    """The numbers of the bundle to which a change leads this one."""
    check_skin(skin)
    check_change(skin, images)
    check_bundle(skin, numbers, "numbers")
    return numbers_led(skin, images, numbers)


class Windings:
    """What comes to who goes along a simple round several times, from each strand of it on, beside a bundle."""

    def __init__(self, weave, loop, times):
        self.weave = weave
        self.loop = loop
        self.times = times
        self.layout = Layout(best_drawing(weave.skin, [loop]))
        self._known = {}

    def crossed_chords(self, start, end):
        """The strands that begin the chords between two gaps, start below end, as one goes from start to end.

        Each with True if the round goes to the left there.
        """
        found = []
        for strand in all_strands([self.loop]):
            come, leave = self.layout.chord(strand)
            is_right = [start <= point[0] < end for point in (come, leave)]
            if is_right[0] != is_right[1]:
                found.append((come if is_right[0] else leave, strand[1], is_right[0]))
        return [(place, is_left) for _, place, is_left in sorted(found)]

    def letters(self, place, is_forward):
        """The letters of the round, once round it, from where the chord begun by this strand is met."""
        letters = from_place(self.loop, place + 1)
        return letters if is_forward else gone_back(letters)

    def passage(self, place, is_forward):
        """The passage from the first letter of all these as far as the last one."""
        key = (place, is_forward)
        if key not in self._known:
            letters = self.letters(place, is_forward)
            told = None
            if self.times > 1:
                told = many_passages(self.weave.along(letters + letters[:1]), self.times - 1)
            if len(letters) > 1:
                last = self.weave.along(letters)
                told = last if told is None else joined_passages(told, last)
            self._known[key] = told
        return self._known[key]

    def crossed(self, start, end, is_left):
        """How often the bundle crosses the way from gap to gap that goes along the round wherever it meets it.

        It goes so often to the left, or to the right: it never turns back there.
        """
        place = 2 * start
        told = None
        for chord, goes_left in self.crossed_chords(start, end):
            is_forward = goes_left == is_left
            letters = self.letters(chord, is_forward)
            come = self.weave.through(place, self.weave.end_place(letters[0]))
            told = come if told is None else joined_passages(told, come)
            there = self.passage(chord, is_forward)
            told = told if there is None else joined_passages(told, there)
            place = self.weave.end_place(letters[-1] ^ 1)
        last = self.weave.through(place, 2 * end)
        return last[5] if told is None else joined_passages(told, last)[5]


def _twisted(skin, loop, times, numbers):
    """The numbers of a bundle twisted along a simple round, not 0 times."""
    windings = Windings(bundle_weave(skin, numbers), loop, abs(times))
    # The bundle goes to its left, so what it crosses is led back to the right.
    return told_numbers([windings.crossed(start, end, times < 0) for start, end in _ways_of_numbers(skin)])


def twisted_bundle(skin, loop, times, numbers):
    """The numbers of the bundle twisted along a simple round, so many times."""
    check_skin(skin)
    check_round(skin, loop)
    check_simple(skin, loop)
    if not is_within(times, -MOST_TWISTS, MOST_TWISTS):
        raise BadNumber("times")
    check_bundle(skin, numbers, "numbers")
    return numbers if times == 0 else _twisted(skin, loop, times, numbers)
