"""Promise k79, points [91], [80]: how often bridges cross rounds, one another and themselves."""

import unittest

from tautrounds.bridges import bridge_of
from tautrounds.bundles import bundle_of
from tautrounds.errors import BadBridge, BadRound, BadSkin
from tautrounds.linked import fewest
from tautrounds.overpasses import bridges_crossed, overpasses, own_overpasses
from tautrounds.rounds import round_of, turned_about
from tautrounds.skins import mirrored, renamed, rims
from tautrounds.words import cut_free, gone_back
from tests.helpers import (
    NO_SKINS, ODD_VALUES, RING, TORUS, across, around, chance_bridge, chance_numbers, chance_of, chance_renaming,
    chance_round, chance_skin, chance_unlike, check_error,
)


class Tree:
    """The tree of discs, each told by a free word: where its gaps and its far ends stand round it, and its spots."""

    def __init__(self, skin):
        self.skin = skin
        self.places = {end: place for place, end in enumerate(skin.row)}

    def standing(self, word, place):
        """What tells where a place of a disc stands round the tree; place 2 * i is gap i, 2 * i + 1 is e(i)."""
        many = 4 * self.skin.bands
        told, come = [], 0
        for letter in word:
            told.append((2 * self.places[letter] + 1 - come) % many)
            come = 2 * self.places[letter ^ 1] + 1
        return told + [(place - come) % many]

    def spot(self, word, gap):
        """Gaps at one rim, as far as it can come near: pairs of a disc and a gap."""
        found = {(word, gap)}
        for way in (1, -1):
            here, there = word, gap
            for _ in range(100):
                letter = self.skin.row[there if way == 1 else there - 1]
                here = cut_free(here + (letter,))
                there = self.places[letter ^ 1] + (1 if way == 1 else 0)
                there = there % (2 * self.skin.bands)
                found.add((here, there))
        return found

    def laid(self, bridge, disc):
        """A bridge laid from this disc on: its two ends, as pairs of a disc and a gap."""
        return (disc, bridge[0]), (cut_free(disc + bridge[1]), bridge[2])

    def turns(self, points):
        """Whether four standings stand by turns, the first two parting the others."""
        low, high = sorted(points[:2])
        return (low < points[2] < high) != (low < points[3] < high)


def discs_on(word):
    return [cut_free(word[:at]) for at in range(len(word) + 1)]


def counted_bridges(skin, one, other):
    """bridges_crossed, counted over all layings of the other one that come to a disc of the one."""
    tree = Tree(skin)
    mine = tree.laid(one, ())
    my_spots = [tree.spot(*end) for end in mine]
    starts = {cut_free(here + gone_back(there)) for here in discs_on(one[1]) for there in discs_on(other[1])}
    many, seen = 0, []
    for disc in starts:
        ends = tree.laid(other, disc)
        if any(end in spot for end in ends for spot in my_spots):
            continue
        # Of a bridge around an end there are two ways to lay it that are one.
        spots = [tree.spot(*end) for end in ends]
        if any(all(end in that or end in this for end in ends) for this, that in seen):
            continue
        seen.append(spots)
        many += tree.turns([tree.standing(word, 2 * gap) for word, gap in mine + ends])
    return many


def counted_round(skin, bridge, loop):
    """overpasses, counted over all lines that come to a disc of the bridge."""
    tree = Tree(skin)
    mine = [tree.standing(word, 2 * gap) for word, gap in tree.laid(bridge, ())]
    many = 0
    for at, disc in enumerate(discs_on(bridge[1])):
        back_to_front = None if at == 0 else bridge[1][at - 1] ^ 1
        for place in range(len(loop)):
            on = tuple(loop[(place + 1 + step) % len(loop)] for step in range(60))
            back = tuple(loop[(place - step) % len(loop)] ^ 1 for step in range(60))
            # Each line is counted in the first disc of the bridge to which it comes.
            if back_to_front not in (on[0], back[0]):
                ends = [tree.standing(cut_free(disc + far), 0) for far in (on, back)]
                many += tree.turns(mine + ends)
    return many


class OverpassesTest(unittest.TestCase):
    def test_by_hand(self):
        told = [overpasses(TORUS, (0, (), 2), loop) for loop in ((0,), (0, 2), (0, 3))]
        self.assertEqual(told, [1, 2, 0])
        self.assertEqual(bridges_crossed(TORUS, (0, (), 2), (1, (), 3)), 1)

    def test_counted_in_the_tree(self):
        chance = chance_of(1)
        seen = [0, 0]
        for _ in range(150):
            skin = chance_skin(chance, chance.randint(2, 4))
            one, other = chance_bridge(chance, skin, 5), chance_bridge(chance, skin, 5)
            many = bridges_crossed(skin, one, other)
            self.assertEqual(many, counted_bridges(skin, one, other))
            self.assertEqual(bridges_crossed(skin, other, one), many)
            seen[0] += many
            loop = chance_round(chance, skin, 6) * chance.choice([1, 1, 2])
            many = overpasses(skin, one, loop)
            self.assertEqual(many, counted_round(skin, one, loop))
            seen[1] += many
        self.assertGreater(min(seen), 150)

    def test_of_one_bridge(self):
        chance = chance_of(2)
        simple = 0
        for _ in range(150):
            skin = chance_skin(chance, chance.randint(2, 4))
            bridge = chance_bridge(chance, skin, 5)
            own = own_overpasses(skin, bridge)
            self.assertEqual(bridges_crossed(skin, bridge, bridge), 2 * own)
            self.assertEqual(counted_bridges(skin, bridge, bridge), 2 * own)
            simple += own == 0
        self.assertTrue(30 < simple < 140)

    def test_numbers_of_bundles(self):
        chance = chance_of(3)
        for _ in range(60):
            skin = chance_skin(chance, chance.randint(2, 5))
            numbers = chance_numbers(chance, skin, 3)
            rounds = [(loop, times) for loop, times in bundle_of(skin, numbers)]
            if max((len(loop) for loop, _ in rounds), default=0) > 40:
                continue
            last = 2 * skin.bands - 1
            for gap in range(last + 1):
                many = sum(times * overpasses(skin, around(skin, gap), loop) for loop, times in rounds)
                self.assertEqual(many, numbers[skin.row[gap] // 2])
            for gap in range(2, last):
                many = sum(times * overpasses(skin, across(skin, gap), loop) for loop, times in rounds)
                self.assertEqual(many, numbers[skin.bands + gap - 2])

    def test_facts(self):
        chance = chance_of(4)
        for _ in range(100):
            skin = chance_skin(chance, chance.randint(2, 5))
            one, other = chance_bridge(chance, skin, 6), chance_bridge(chance, skin, 6)
            loop = chance_round(chance, skin, 6)
            many = [overpasses(skin, one, loop), bridges_crossed(skin, one, other), own_overpasses(skin, one)]
            self.assertEqual(overpasses(skin, one, turned_about(skin, loop)), many[0])
            self.assertEqual(overpasses(skin, one, loop * 3), 3 * many[0])
            letters = chance_renaming(chance, skin.bands)
            new = renamed(skin, letters)
            shift = new.row.index(letters[skin.row[0]])
            led = [self.moved(new, bridge, letters, shift) for bridge in (one, other)]
            word = round_of(new, tuple(letters[letter] for letter in loop))
            told = [overpasses(new, led[0], word), bridges_crossed(new, *led), own_overpasses(new, led[0])]
            self.assertEqual(told, many)
            glass = mirrored(skin)
            led = [self.reflected(skin, glass, bridge) for bridge in (one, other)]
            told = [overpasses(glass, led[0], loop), bridges_crossed(glass, *led), own_overpasses(glass, led[0])]
            self.assertEqual(told, many)
            for at, rim in enumerate(rims(skin)):
                ends = sum(skin.row[gap] in rim for gap in (one[0], one[2]))
                self.assertEqual(overpasses(skin, one, rim), ends)
                self.assertEqual(overpasses(skin, one, turned_about(skin, rim)), ends)

    def moved(self, new, bridge, letters, shift):
        many = 2 * new.bands
        word = tuple(letters[letter] for letter in bridge[1])
        return bridge_of(new, (bridge[0] + shift) % many, word, (bridge[2] + shift) % many)

    def reflected(self, skin, glass, bridge):
        """Gap i lies ahead of e(i); in the glass it lies behind it."""
        gaps = [(glass.row.index(skin.row[gap]) + 1) % (2 * skin.bands) for gap in (bridge[0], bridge[2])]
        return bridge_of(glass, gaps[0], bridge[1], gaps[1])

    def test_forty_letters(self):
        chance = chance_of(5)
        for _ in range(10):
            skin = chance_skin(chance, 6)
            one, other = chance_bridge(chance, skin, 40), chance_bridge(chance, skin, 40)
            self.assertEqual(bridges_crossed(skin, one, other), bridges_crossed(skin, other, one))
            self.assertGreaterEqual(overpasses(skin, one, chance_round(chance, skin, 40)), 0)

    def test_refused(self):
        good = (0, (), 1)
        for skin in NO_SKINS + [RING]:
            part = ("part", "bands" if skin is RING else None)
            check_error(self, BadSkin, part, overpasses, skin, None, None)
            check_error(self, BadSkin, part, bridges_crossed, skin, None, None)
            check_error(self, BadSkin, part, own_overpasses, skin, None)
        for thing in ODD_VALUES + [(2, (), 3), [0, (), 1], (0, (), True), (0, (0, 1), 1)]:
            check_error(self, BadBridge, None, overpasses, TORUS, thing, None)
            check_error(self, BadBridge, None, bridges_crossed, TORUS, thing, None)
            check_error(self, BadBridge, None, bridges_crossed, TORUS, good, thing)
            check_error(self, BadBridge, None, own_overpasses, TORUS, thing)
        for loop in ODD_VALUES + [(), (2, 0), (0, 1)]:
            check_error(self, BadRound, None, overpasses, TORUS, good, loop)
        self.assertEqual(overpasses(skin=TORUS, bridge=(0, (), 2), loop=(0, 2)), 2)
        self.assertEqual(bridges_crossed(skin=TORUS, one=(0, (), 2), other=(1, (), 3)), 1)
        self.assertEqual(own_overpasses(skin=TORUS, bridge=(0, (), 2)), 0)


class Sketch:
    """One drawing of bridges and rounds: strands stand along bands as the ways beyond them lead apart."""

    def __init__(self, skin, bridges, rounds):
        self.skin = skin
        self.many = 4 * skin.bands
        self.place = {end: 2 * at + 1 for at, end in enumerate(skin.row)}
        self.ways = [(bridge[1], bridge) for bridge in bridges] + [(loop, None) for loop in rounds]
        self.rows = {}
        for band in range(skin.bands):
            here = [(which, at) for which, (word, _) in enumerate(self.ways)
                    for at, letter in enumerate(word) if letter // 2 == band]
            self.rows[band] = sorted(here, key=lambda strand: (self.standing(*strand), strand))

    def beyond(self, which, at, way):
        """How far round each disc beyond a strand the way leaves, read on (1) or back (-1)."""
        word, bridge = self.ways[which]
        told = []
        for _ in range(100):
            come = word[at % len(word)] ^ (1 if way == 1 else 0)
            at += way
            if bridge is not None and not 0 <= at < len(word):
                leave = 2 * bridge[2 if way == 1 else 0]
            else:
                leave = self.place[word[at % len(word)] ^ (0 if way == 1 else 1)]
            told.append((leave - self.place[come]) % self.many)
            if bridge is not None and not 0 <= at < len(word):
                break
        return told + [0] * (100 - len(told))

    def standing(self, which, at):
        way = 1 if self.ways[which][0][at] % 2 == 0 else -1
        pairs = zip(self.beyond(which, at, -way), self.beyond(which, at, way))
        return [(-back, on) for back, on in pairs]

    def point(self, which, at, end):
        row = self.rows[end // 2]
        spot = row.index((which, at))
        return self.place[end], spot if end % 2 == 0 else -spot

    def chords(self):
        """For each way its chords: pairs of points, a gap's points standing as their other ends let them."""
        told = []
        for which, (word, bridge) in enumerate(self.ways):
            outs = [self.point(which, at, letter) for at, letter in enumerate(word)]
            ins = [self.point(which, at, letter ^ 1) for at, letter in enumerate(word)]
            if bridge is None:
                told.append([(ins[at - 1], outs[at]) for at in range(len(word))])
            else:
                first, last = (2 * bridge[0], None), (2 * bridge[2], None)
                told.append(list(zip([first] + ins, outs + [last])))
        return told

    def crossed(self):
        """How often chords cross, of all ways together."""
        chords = [chord for way in self.chords() for chord in way]
        many = 0
        for at, one in enumerate(chords):
            many += sum(self.cross(one, other) for other in chords[at + 1:])
        return many

    def cross(self, one, other):
        """Whether two chords cross; where they begin at one gap they need not."""
        if {point for point in one if point[1] is None} & {point for point in other if point[1] is None}:
            return False
        keys = [(place, 0 if spot is None else spot) for place, spot in one + other]
        low, high = sorted(keys[:2])
        return (low < keys[2] < high) != (low < keys[3] < high)


class DrawnTest(unittest.TestCase):
    """One drawing of bridges and rounds has just as many crossings as all the numbers tell ([91])."""

    def test_one_drawing(self):
        chance = chance_of(6)
        for _ in range(80):
            skin = chance_skin(chance, chance.randint(2, 5))
            bridges = [chance_bridge(chance, skin, 5) for _ in range(3)]
            rounds = chance_unlike(chance, skin, 2, 6)
            if len(set(bridges)) < 3:
                continue
            wanted = fewest(skin, rounds) + sum(own_overpasses(skin, bridge) for bridge in bridges)
            wanted += sum(overpasses(skin, bridge, loop) for bridge in bridges for loop in rounds)
            wanted += sum(bridges_crossed(skin, bridges[at], other) for at in range(3) for other in bridges[at + 1:])
            self.assertEqual(Sketch(skin, bridges, rounds).crossed(), wanted)


if __name__ == "__main__":
    unittest.main()
