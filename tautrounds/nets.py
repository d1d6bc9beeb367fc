"""Fans as nets: how the ends of their bridges stand along the rims, and which triangles come of it.

Each bridge of a fan is gone in two directions: 2 * place is it as its triple tells it, 2 * place + 1 turned about.
"""

from tautrounds.errors import BadFan
from tautrounds.given import is_list
from tautrounds.passages import bridge_weave
from tautrounds.skins import rims
from tautrounds.triples import is_fit_bridge, plain_triple
from tautrounds.words import cut_free, gone_back


def _standing(skin, triple):
    """What tells where at its gap a way begins: lists of it ascend counterclockwise, as the ways leave the disc."""
    start, word, end = triple
    many = 2 * len(skin.row)
    come = 2 * start
    told = []
    for letter in word:
        told.append((2 * skin.places[letter] + 1 - come) % many)
        come = 2 * skin.places[letter ^ 1] + 1
    told.append((2 * end - come) % many)
    return told


class Net:
    """Bridges, gone in both directions, with the next one behind each as one goes round with a triangle on the left.

    Along a rim one goes with the skin on the left: from gap g by letter e(g). So of two bridges that end there side
    by side the second one goes on where the first one comes to the rim.
    """

    def __init__(self, skin, bridges):
        self.skin = skin
        self.bridges = bridges
        self.ways = []
        for start, word, end in bridges:
            self.ways.extend([(start, word, end), (end, gone_back(word), start)])
        self.behind = [None] * len(self.ways)
        self.segments = [None] * len(self.ways)
        for rim in rims(skin):
            self._join_along(rim)

    def _join_along(self, rim):
        """Notes which way begins behind each one along a rim, and the letters between."""
        ends = []
        for step, letter in enumerate(rim):
            gap = self.skin.places[letter]
            here = [(_standing(self.skin, way), at) for at, way in enumerate(self.ways) if way[0] == gap]
            ends.extend([(step, at) for _, at in sorted(here, reverse=True)])
        for place, (step, at) in enumerate(ends):
            beyond, other = ends[(place + 1) % len(ends)]
            # Who comes to this end turns there to the next one.
            self.behind[at ^ 1] = other
            is_round = place + 1 == len(ends)
            self.segments[at ^ 1] = rim[step:] + rim[:beyond] if is_round else rim[step:beyond]

    def around(self, at):
        """The three ways, from this one on, along the sides of the triangle to its left."""
        return at, self.behind[at], self.behind[self.behind[at]]

    def _is_triangle(self, at):
        """Whether three ways behind one another lead back, in the tree of discs, to where they began."""
        sides = self.around(at)
        if self.behind[sides[2]] != at:
            return False
        letters = []
        for side in sides:
            letters.extend(self.ways[side][1] + self.segments[side])
        return not cut_free(letters)

    def is_whole(self):
        """Whether triangles alone come of it.

        Triangles that fit along all sides, and round all rims, cover the skin, and just once: for each rim has all
        its ends in one row. So no two of their sides cross, and no further bridge has room.
        """
        return all([self._is_triangle(at) for at in range(len(self.ways))])

    def across(self, place):
        """The bridge that a flip puts into the place of one, however long; None if one triangle has it twice."""
        one, other = 2 * place, 2 * place + 1
        if other in self.around(one):
            return None
        ahead = self.around(one)[2]
        beyond = self.behind[other]
        word = self.ways[ahead][1] + self.segments[ahead] + self.segments[other] + self.ways[beyond][1]
        return plain_triple(self.skin, self.ways[ahead][0], word, self.ways[beyond][2])

    def corners(self, place):
        """The places of the bridges round the four-sided piece in which this one is a diagonal."""
        one, other = 2 * place, 2 * place + 1
        return [side // 2 for side in self.around(one)[1:] + self.around(other)[1:]]

    def triangles(self):
        """The ascending list of the triangles: the places of their sides, the least turn of these."""
        found = []
        for at in range(len(self.ways)):
            one, other, third = self.around(at)
            if at == min(one, other, third):
                sides = (one // 2, other // 2, third // 2)
                found.append(min(sides, sides[1:] + sides[:1], sides[2:] + sides[:2]))
        return sorted(found)


def is_fit_fan(skin, thing):
    """Whether it is a fan, of a skin that surely has two bands or more."""
    if not is_list(thing) or len(thing) != 3 * skin.bands - 3:
        return False
    if not all([is_fit_bridge(skin, bridge) for bridge in thing]):
        return False
    if any([thing[at] >= thing[at + 1] for at in range(len(thing) - 1)]):
        return False
    return Net(skin, thing).is_whole()


def check_fan(skin, fan, part):
    """BadFan of this part unless it is a fan."""
    if not is_fit_fan(skin, fan):
        raise BadFan(part)


def fan_across(skin):
    """The first fan: bridges around ends, and from gap 0 across the disc."""
    last = len(skin.row) - 1
    pairs = [(gap, gap + 1) for gap in range(last)] + [(0, gap) for gap in range(2, last + 1)]
    return sorted(set([plain_triple(skin, start, (), end) for start, end in pairs]))


def with_flip(bridges, place, bridge):
    """The fan in which this bridge is new in the place of another one."""
    return sorted(list(bridges[:place]) + list(bridges[place + 1:]) + [bridge])


def _next_flip(net, weave, crossed):
    """The place and the new bridge of a flip by which a bridge is crossed less often, told with how often then.

    There is always one among those that are crossed most often.
    """
    most = max(list(crossed.values()))
    for place, bridge in enumerate(net.bridges):
        new = net.across(place) if crossed[bridge] == most else None
        if new is not None:
            many = weave.crossed_on(new[0], new[1], new[2])
            if many < most:
                return place, new, many
    return None


def flips_toward(skin, bridges, bridge):
    """The flips by which a simple bridge comes to stand in a fan, as triples (net, place, new), and the fan then.

    What does not cross this bridge stays.
    """
    weave = bridge_weave(skin, bridge)
    crossed = {other: weave.crossed_on(other[0], other[1], other[2]) for other in bridges}
    steps = []
    while bridge not in crossed:
        net = Net(skin, bridges)
        place, new, many = _next_flip(net, weave, crossed)
        steps.append((net, place, new))
        crossed.pop(bridges[place])
        crossed[new] = many
        bridges = with_flip(bridges, place, new)
    return steps, bridges


def flips_between(skin, one, other):
    """The flips, as such triples, that lead one fan to another one."""
    steps = []
    for bridge in other:
        more, one = flips_toward(skin, one, bridge)
        steps.extend(more)
    return steps
