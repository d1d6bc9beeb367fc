"""Live skins: they keep rounds by names, a drawing of them, and numbers; deeds change them."""

from tautrounds.deeds import behind_deed, check_deeds, is_name, new_stand, place_of, told_deed
from tautrounds.drawings import crossed_number
from tautrounds.errors import BadLive, BadName, NoMark, NotNow
from tautrounds.given import is_number
from tautrounds.linked import own_number, pairs_of
from tautrounds.skins import check_skin


class Live:
    """A skin with rounds by names, and all that was done to it."""

    def __init__(self, skin, cross=None):
        check_skin(skin)
        self.first = skin
        self._cross = cross
        self._steps = []
        self._done = 0
        # For each place between steps the stand there, and the bearers of its names.
        self._places = [(new_stand(skin), ())]
        self._marks = {}
        self._bearers_made = 0
        self._kept = {}
        self._show()

    def __eq__(self, other):
        if not isinstance(other, Live):
            return False
        return self.skin == other.skin and self.names == other.names and self.drawing == other.drawing

    def _show(self):
        """Shows the stand of the place behind the steps now done."""
        stand = self._places[self._done][0]
        self.skin = stand.drawing.skin
        self.names = stand.names
        self.drawing = stand.drawing

    def loop(self, name):
        """The round of this name."""
        return self.drawing.rounds[place_of(self.names, name)]

    def copy(self):
        """An equal live skin with all that this one keeps; neither has an effect on the other."""
        other = Live(self.first, self._cross)
        other._steps = list(self._steps)
        other._done = self._done
        other._places = list(self._places)
        other._marks = {name: self._marks[name] for name in self._marks}
        other._bearers_made = self._bearers_made
        other._kept = {key: self._kept[key] for key in self._kept}
        other._show()
        return other

    def draw(self, name, loop):
        """A round is drawn in, behind all others."""
        self._step([("draw", name, loop)])

    def wipe(self, name):
        """A round is wiped out."""
        self._step([("wipe", name)])

    def swap(self, band, place):
        """Two neighbours in a band's row are exchanged."""
        self._step([("swap", band, place)])

    def settle(self):
        """The drawing becomes the best one."""
        self._step([("settle",)])

    def slide(self, end, side):
        """An end slides over the band beside it, and leads all rounds."""
        self._step([("slide", end, side)])

    def rename(self, letters):
        """The ends get new names, and lead all rounds."""
        self._step([("rename", letters)])

    def change(self, images):
        """A change leads all rounds."""
        self._step([("change", images)])

    def twist(self, name, times):
        """The twist along the round of this name leads all rounds."""
        self._step([("twist", name, times)])

    def do(self, deeds):
        """Deeds are done one after the other, as one step; all of them, or none."""
        check_deeds(deeds, 1)
        self._step(deeds)

    def _step(self, deeds):
        """Does a step. Nothing of this live skin changes ahead of the last deed, as each may be refused."""
        stand, bearers = self._places[self._done]
        made = self._bearers_made
        for deed in deeds:
            new = behind_deed(stand, deed)
            if deed[0] == "draw":
                bearers = bearers + (made,)
                made += 1
            elif deed[0] == "wipe":
                gone = stand.names.index(deed[1])
                bearers = bearers[:gone] + bearers[gone + 1:]
            stand = new
        self._bearers_made = made
        self._marks = {name: place for name, place in self._marks.items() if place <= self._done}
        self._steps = self._steps[:self._done] + [tuple([told_deed(deed) for deed in deeds])]
        self._places = self._places[:self._done + 1] + [(stand, bearers)]
        self._done += 1
        self._show()

    def number(self, name, other=None):
        """How often the round of this name crosses itself at least, or that of another name."""
        index = place_of(self.names, name)
        if other is None:
            return self._number_of(index, index)
        spot = place_of(self.names, other)
        if spot == index:
            raise BadName("the name of another round is wanted")
        return self._number_of(min(index, spot), max(index, spot))

    def _number_of(self, index, spot):
        """The number of two rounds by their places, or of one if both are one; it is asked for once."""
        bearers = self._places[self._done][1]
        key = (bearers[index], bearers[spot])
        if key not in self._kept:
            one = self.drawing.rounds[index]
            self._kept[key] = self._answer(one, None if index == spot else self.drawing.rounds[spot])
        return self._kept[key]

    def _answer(self, one, other):
        """The number of two rounds, or of one, as cross tells it, or as the package does."""
        ask = self._cross
        if ask is None:
            return own_number(self.skin, one) if other is None else len(pairs_of(self.skin, one, other))
        told = ask(self.skin, one, other)
        if not is_number(told) or told < 0:
            raise BadLive("cross")
        return told

    def fewest(self):
        """The fewest crossings of all rounds together."""
        many = 0
        for index in range(len(self.names)):
            for spot in range(index, len(self.names)):
                many += self._number_of(index, spot)
        return many

    def crossed(self):
        """How many crossings the drawing has."""
        return crossed_number(self.drawing)

    def over(self):
        """How many crossings the drawing has beyond the fewest."""
        return crossed_number(self.drawing) - self.fewest()

    def steps(self):
        """The list of the steps that are done, each a tuple of its deeds."""
        return self._steps[:self._done]

    def undo(self):
        """The last step is taken back."""
        if self._done == 0:
            raise NotNow("no step is done")
        self._done -= 1
        self._show()

    def redo(self):
        """The step that was taken back last is done again."""
        if self._done == len(self._steps):
            raise NotNow("no step was taken back since the last new one")
        self._done += 1
        self._show()

    def mark(self, name):
        """The place behind the steps now done gets this mark."""
        if not is_name(name):
            raise BadName("a name of 1 to 8 letters a to z is wanted")
        self._marks[name] = self._done

    def to(self, name):
        """Steps are taken back, or done again, as far as the place with this mark."""
        if not is_name(name) or name not in self._marks:
            raise NoMark(name)
        self._done = self._marks[name]
        self._show()

    def marks(self):
        """The ascending dict from marks to how many steps their places have."""
        return {name: self._marks[name] for name in sorted(self._marks)}


def check_live(live):
    """BadLive(None) unless it is a Live."""
    if not isinstance(live, Live):
        raise BadLive(None)
