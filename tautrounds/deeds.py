"""Deeds: what can be done to the rounds of a live skin, each from one stand to the next one."""

from tautrounds.best import best_drawing
from tautrounds.changes import check_change
from tautrounds.drawings import Drawing
from tautrounds.errors import BadDeed, BadName, RoundError, TooMany
from tautrounds.given import is_list, is_tuple
from tautrounds.pushes import exchanged
from tautrounds.rounds import MOST_IN_ROUND, MOST_ROUNDS, MOST_TOGETHER, check_round, closed_letters
from tautrounds.skins import least_turn, renamed
from tautrounds.slides import led_free, slid
from tautrounds.twists import check_simple, check_twist_times, twist_images

NAME_SIGNS = "abcdefghijklmnopqrstuvwxyz"
MOST_IN_NAME = 8


class Stand:
    """What a live skin has at one time: the names of its rounds, and the drawing of these."""

    def __init__(self, names, drawing):
        self.names = names
        self.drawing = drawing

    def __eq__(self, other):
        return isinstance(other, Stand) and self.names == other.names and self.drawing == other.drawing


def new_stand(skin):
    """The stand of a live skin without rounds."""
    return Stand((), Drawing(skin, [], [[] for _ in range(skin.bands)]))


def is_name(thing):
    """Whether it is a name: a string of 1 to 8 letters a to z."""
    if type(thing) is not str or not 1 <= len(thing) <= MOST_IN_NAME:
        return False
    return all([sign in NAME_SIGNS for sign in thing])


def place_of(names, name):
    """Where a name stands; BadName unless it does."""
    if not is_name(name) or name not in names:
        raise BadName("no round has this name")
    return names.index(name)


def _draw(stand, things):
    """The stand with a round drawn in behind all others."""
    name, loop = things
    drawing = stand.drawing
    if not is_name(name) or name in stand.names:
        raise BadName("a name of 1 to 8 letters a to z that no round has is wanted")
    check_round(drawing.skin, loop)
    if len(drawing.rounds) >= MOST_ROUNDS:
        raise TooMany(MOST_ROUNDS)
    rounds = drawing.rounds + (loop,)
    if sum([len(other) for other in rounds]) > MOST_TOGETHER:
        raise TooMany(MOST_TOGETHER)
    rows = [list(row) for row in drawing.rows]
    for place, letter in enumerate(loop):
        rows[letter // 2].append((len(drawing.rounds), place))
    return Stand(stand.names + (name,), Drawing(drawing.skin, rounds, rows))


def _wipe(stand, things):
    """The stand without a round."""
    gone = place_of(stand.names, things[0])
    drawing = stand.drawing
    rows = [
        [(index - 1 if index > gone else index, place) for index, place in row if index != gone]
        for row in drawing.rows
    ]
    rounds = drawing.rounds[:gone] + drawing.rounds[gone + 1:]
    return Stand(stand.names[:gone] + stand.names[gone + 1:], Drawing(drawing.skin, rounds, rows))


def _swap(stand, things):
    """The stand with two neighbours in a row exchanged."""
    return Stand(stand.names, exchanged(stand.drawing, things[0], things[1]))


def _settle(stand, _):
    """The stand with the best drawing of its rounds."""
    return Stand(stand.names, best_drawing(stand.drawing.skin, stand.drawing.rounds))


def _lead(stand, skin, images):
    """The stand on another skin, or the same one, with the rounds led by images."""
    words = [closed_letters(led_free(images, loop)) for loop in stand.drawing.rounds]
    # A twist can lead a round to a million letters and more: they are counted ahead of all else.
    if max([len(word) for word in words], default=0) > MOST_IN_ROUND:
        raise TooMany(MOST_IN_ROUND)
    if sum([len(word) for word in words]) > MOST_TOGETHER:
        raise TooMany(MOST_TOGETHER)
    return Stand(stand.names, best_drawing(skin, [least_turn(word) for word in words]))


def _slide(stand, things):
    """The stand behind a slide."""
    skin, images = slid(stand.drawing.skin, things[0], things[1])
    return _lead(stand, skin, images)


def _rename(stand, things):
    """The stand behind a renaming."""
    skin = renamed(stand.drawing.skin, things[0])
    return _lead(stand, skin, [(letter,) for letter in things[0]])


def _change(stand, things):
    """The stand behind a change."""
    check_change(stand.drawing.skin, things[0])
    return _lead(stand, stand.drawing.skin, things[0])


def _twist(stand, things):
    """The stand behind a twist along one of its rounds."""
    name, times = things
    skin = stand.drawing.skin
    loop = stand.drawing.rounds[place_of(stand.names, name)]
    check_simple(skin, loop)
    check_twist_times(times)
    return _lead(stand, skin, twist_images(skin, loop, times))


THINGS = {"draw": 2, "wipe": 1, "swap": 2, "settle": 0, "slide": 2, "rename": 1, "change": 1, "twist": 2}
ACTS = {
    "draw": _draw, "wipe": _wipe, "swap": _swap, "settle": _settle, "slide": _slide, "rename": _rename,
    "change": _change, "twist": _twist,
}


def is_deed(thing):
    """Whether it is a tuple of a deed's word and as many things as it wants, whatever these are."""
    if not is_tuple(thing) or len(thing) == 0 or type(thing[0]) is not str or thing[0] not in THINGS:
        return False
    return len(thing) == THINGS[thing[0]] + 1


def check_deeds(deeds, least):
    """BadDeed unless it is a list of so many deeds or more."""
    if not is_list(deeds) or len(deeds) < least or not all([is_deed(deed) for deed in deeds]):
        raise BadDeed("a list of deeds is wanted")


def behind_deed(stand, deed):
    """The stand behind a deed; the error of the deed if it is refused."""
    act = ACTS[deed[0]]
    return act(stand, deed[1:])


def told_deed(deed):
    """A deed that was done, as it is told: what was handed in may be changed behind."""
    if deed[0] in ("rename", "change"):
        return deed[0], tuple(deed[1])
    return deed


class Course:
    """Deeds from a new stand of a skin on, in many sequences; each beginning of one is done once."""

    def __init__(self, skin, deeds):
        self.deeds = deeds
        self.stands = {(): new_stand(skin)}

    def stand(self, places):
        """The stand behind the deeds at these places, one after the other; None if one of them is refused."""
        if places not in self.stands:
            self.stands[places] = self._behind_last(places)
        return self.stands[places]

    def _behind_last(self, places):
        """The stand behind the last of these deeds; None if one of them is refused."""
        stand = self.stand(places[:-1])
        if stand is None:
            return None
        try:
            return behind_deed(stand, self.deeds[places[-1]])
        except RoundError:
            return None

    def lead_alike(self, one, other):
        """Whether both sequences can be done, and lead to equal stands."""
        return self.stand(one) is not None and self.stand(one) == self.stand(other)
