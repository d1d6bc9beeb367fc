"""Live fans: a fan of a skin with bundles by names, led deed by deed."""

from tautrounds.changes import check_change
from tautrounds.chords import check_bundle
from tautrounds.deeds import is_name
from tautrounds.errors import BadName, NotNow, TooMany
from tautrounds.fannumbers import row_on
from tautrounds.flips import flip_of
from tautrounds.leads import numbers_led
from tautrounds.nets import fan_across
from tautrounds.patterns import fan_led
from tautrounds.triples import check_bands

MOST_BUNDLES = 8


class LiveFan:
    """A skin with a fan and bundles by names, and all that was done to it."""

    def __init__(self, skin):
        check_bands(skin)
        self.skin = skin
        # For each place between deeds the fan there, and the pairs of the names and their bundles.
        self._places = [(tuple(fan_across(skin)), ())]
        self._done = 0
        self._show()

    def __eq__(self, other):
        if not isinstance(other, LiveFan):
            return False
        return self.skin == other.skin and self._places[self._done] == other._places[other._done]

    def _show(self):
        """Shows the place behind the deeds now done."""
        fan, bundles = self._places[self._done]
        self.fan = fan
        self.names = tuple([name for name, _ in bundles])

    def _go_on(self, fan, bundles):
        """Comes to a new place; what was taken back cannot be done again."""
        self._places = self._places[:self._done + 1] + [(tuple(fan), tuple(sorted(bundles)))]
        self._done += 1
        self._show()

    def lay(self, name, numbers):
        """A bundle is laid, by a new name."""
        if not is_name(name) or name in self.names:
            raise BadName("a name of 1 to 8 letters a to z that no bundle has is wanted")
        check_bundle(self.skin, numbers, "numbers")
        if len(self.names) >= MOST_BUNDLES:
            raise TooMany(MOST_BUNDLES)
        fan, bundles = self._places[self._done]
        self._go_on(fan, bundles + ((name, numbers),))

    def lift(self, name):
        """A bundle is taken away."""
        self.numbers(name)
        fan, bundles = self._places[self._done]
        self._go_on(fan, [pair for pair in bundles if pair[0] != name])

    def flip(self, place):
        """The bridge at this place of the fan is flipped."""
        fan, _ = flip_of(self.skin, self.fan, place)
        self._go_on(fan, self._places[self._done][1])

    def lead(self, images):
        """The fan and all bundles are led by a change."""
        check_change(self.skin, images)
        fan, bundles = self._places[self._done]
        new = fan_led(self.skin, images, fan)
        self._go_on(new, [(name, numbers_led(self.skin, images, numbers)) for name, numbers in bundles])

    def row(self, name):
        """The numbers of a bundle on the fan."""
        return row_on(self.skin, self.fan, self.numbers(name))

    def numbers(self, name):
        """The numbers of a bundle."""
        if not is_name(name) or name not in self.names:
            raise BadName("no bundle has this name")
        return self._places[self._done][1][self.names.index(name)][1]

    def undo(self):
        """The last deed is taken back."""
        if self._done == 0:
            raise NotNow("no deed is done")
        self._done -= 1
        self._show()

    def redo(self):
        """The deed that was taken back last is done again."""
        if self._done == len(self._places) - 1:
            raise NotNow("no deed was taken back since the last new one")
        self._done += 1
        self._show()
