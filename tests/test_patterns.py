"""Promises k86, k90, point [95]: patterns of fans, and fans led by changes."""

import unittest
from fractions import Fraction

from tautrounds.bridges import bridge_of
from tautrounds.changes import behind, is_change, undone_change
from tautrounds.errors import BadBridge, BadFan, BadImages, BadSkin, RoundError, TooMany
from tautrounds.fannumbers import numbers_on
from tautrounds.fans import first_fan, is_fan, triangles
from tautrounds.flips import flipped
from tautrounds.leads import led_bundle, twisted_bundle
from tautrounds.overpasses import bridges_crossed, overpasses
from tautrounds.patterns import fan_changes, led_bridge, led_fan, pattern, patterns, symmetries
from tautrounds.rounds import closed_up
from tautrounds.skins import Skin, genus, rims
from tautrounds.slides import led, plain_skin
from tautrounds.strips import crossed_by
from tautrounds.twists import twist
from tautrounds.words import cut_free, gone_back
from tests.helpers import (
    HOLES, NO_SKINS, ODD_VALUES, RING, TORUS, all_rounds, chance_bridge, chance_change, chance_fan, chance_numbers,
    chance_of, chance_round, chance_simple, chance_skin, chance_turning, chance_word, check_error, forward_rims,
    led_round, own_images,
)

FIRST = [(0, (), 1), (0, (), 2), (0, (), 3)]


def told_from(sides, gluing, triangle, side):
    """The tuple of a choice, by the words of the document; sides tells each triangle's sides, gluing what is beyond."""
    numbers, rows, listed = {}, [], [(triangle, side)]

    def number(of, first):
        for step in range(3):
            numbers.setdefault(sides[of][(first + step) % 3], len(numbers))

    number(triangle, side)
    at = 0
    while at < len(listed):
        of, first = listed[at]
        for step in range(3):
            beyond = gluing[(of, (first + step) % 3)]
            if beyond[0] not in [other for other, _ in listed]:
                listed.append(beyond)
                number(*beyond)
        rows.append(tuple(numbers[sides[of][(first + step) % 3]] for step in range(3)))
        at += 1
    return tuple(rows)


def all_told(skin, fan):
    """The tuples of all choices, where each side of a triangle is beyond just one other side."""
    sides = triangles(skin, fan)
    spots = {}
    for of, triangle in enumerate(sides):
        for at, place in enumerate(triangle):
            spots.setdefault(place, []).append((of, at))
    gluing = {}
    for one, other in spots.values():
        gluing[one], gluing[other] = other, one
    return [told_from(sides, gluing, of, at) for of in range(len(sides)) for at in range(3)]


class PatternTest(unittest.TestCase):
    def test_by_hand(self):
        self.assertEqual((pattern(TORUS, FIRST), symmetries(TORUS, FIRST)), (((0, 1, 2), (0, 1, 2)), 6))
        self.assertEqual((pattern(HOLES, FIRST), symmetries(HOLES, FIRST)), (((0, 0, 1), (1, 2, 2)), 2))
        self.assertEqual(patterns(TORUS), [((0, 1, 2), (0, 1, 2))])

    def test_counted_by_choices(self):
        chance = chance_of(1)
        for _ in range(80):
            skin = chance_skin(chance, chance.randint(2, 6))
            fan = chance_fan(chance, skin, chance.choice([0, 4, 25]))
            told = all_told(skin, fan)
            self.assertEqual(len(told), 6 * skin.bands - 6)
            self.assertEqual(pattern(skin, tuple(fan)), min(told))
            self.assertEqual(symmetries(skin, fan), told.count(min(told)))

    def test_counted_over_all_patterns(self):
        wanted = {(0, 3): (2, 4), (0, 4): (6, 32), (0, 5): (26, 336), (1, 1): (1, 1), (1, 2): (5, 28), (1, 3): (46, 664),
                  (2, 1): (9, 105)}
        for (handles, around), (many, total) in wanted.items():
            skin = plain_skin(handles, around)
            told = patterns(skin)
            self.assertEqual((len(told), told), (many, sorted(set(told))))
            choices = 6 * skin.bands - 6
            self.assertEqual(sum(Fraction(choices, self.own_symmetries(one)) for one in told), total)

    def own_symmetries(self, told):
        """How many choices of a pattern's own triangles tell it."""
        spots = {}
        for of, triangle in enumerate(told):
            for at, number in enumerate(triangle):
                spots.setdefault(number, []).append((of, at))
        gluing = {}
        for one, other in spots.values():
            gluing[one], gluing[other] = other, one
        choices = [told_from(told, gluing, of, at) for of in range(len(told)) for at in range(3)]
        self.assertEqual(min(choices), told)
        return choices.count(told)

    def test_same_for_all_skins_of_one_kind(self):
        chance = chance_of(2)
        for _ in range(15):
            skin = chance_skin(chance, chance.randint(2, 4))
            told = patterns(skin)
            self.assertEqual(told, patterns(plain_skin(genus(skin), len(rims(skin)))))
            for _ in range(4):
                self.assertIn(pattern(skin, chance_fan(chance, skin, 20)), told)

    def test_all_found_by_flips(self):
        skin = Skin((0, 2, 1, 3, 4, 5))
        fans = [first_fan(skin)]
        for fan in fans:
            for place in range(len(fan)):
                try:
                    new, _ = flipped(skin, fan, place)
                except RoundError:
                    continue
                if pattern(skin, new) not in [pattern(skin, other) for other in fans]:
                    fans.append(new)
        self.assertEqual(sorted(pattern(skin, fan) for fan in fans), patterns(skin))

    def test_refused(self):
        for skin in NO_SKINS + [RING]:
            part = ("part", "bands" if skin is RING else None)
            check_error(self, BadSkin, part, pattern, skin, None)
            check_error(self, BadSkin, part, symmetries, skin, None)
            check_error(self, BadSkin, part, patterns, skin)
        for thing in ODD_VALUES + [FIRST[::-1]]:
            check_error(self, BadFan, ("part", None), pattern, TORUS, thing)
            check_error(self, BadFan, ("part", None), symmetries, TORUS, thing)
        check_error(self, TooMany, ("most", 4), patterns, Skin((0, 1, 2, 3, 4, 5, 6, 7, 8, 9)))
        told = patterns(skin=TORUS)
        told.append(None)
        self.assertEqual(len(patterns(TORUS)), 1)
        self.assertEqual(pattern(skin=TORUS, fan=FIRST), ((0, 1, 2), (0, 1, 2)))
        self.assertEqual(symmetries(skin=TORUS, fan=FIRST), 6)


def rim_at(skin, gap):
    """The letters of the rim at a gap, read from there on."""
    letters = [skin.row[gap]]
    while True:
        behind_it = skin.row[(skin.row.index(letters[-1] ^ 1) + 1) % (2 * skin.bands)]
        if behind_it == letters[0]:
            return tuple(letters)
        letters.append(behind_it)


def led_gap(skin, images, gap):
    """A gap and a word as the document chooses them: tried out one by one."""
    word = led(skin, images, rim_at(skin, gap))
    for cut in range(len(word)):
        for spot in range(2 * skin.bands):
            for rim in (rim_at(skin, spot), gone_back(rim_at(skin, spot))):
                if word == cut_free(word[:cut] + rim + gone_back(word[:cut])):
                    return spot, word[:cut]
    return None


class LedTest(unittest.TestCase):
    def chance_images(self, chance, skin, many):
        images = chance_change(chance, skin, many)
        turning = chance_turning(chance, skin) if chance.randrange(2) else None
        if turning is not None:
            images = [led(skin, images, word) for word in turning]
        ahead = chance_word(chance, skin, chance.choice([0, 0, 3]))
        return [cut_free(ahead + word + gone_back(ahead)) for word in images]

    def test_led_by_the_words_of_the_document(self):
        chance = chance_of(3)
        for _ in range(100):
            skin = chance_skin(chance, chance.randint(2, 5))
            images = self.chance_images(chance, skin, chance.randint(0, 2))
            start, word, end = bridge = chance_bridge(chance, skin, 3)
            (s, x), (t, y) = led_gap(skin, images, start), led_gap(skin, images, end)
            inner = led(skin, images, word)
            if len(inner) + len(x) + len(y) <= 200:
                wanted = bridge_of(skin, s, gone_back(x) + inner + y, t)
                self.assertEqual(led_bridge(skin, images, bridge), wanted)

    def test_keeps_crossings(self):
        chance = chance_of(4)
        for _ in range(60):
            skin = chance_skin(chance, chance.randint(2, 5))
            images = self.chance_images(chance, skin, 2)
            one, other = chance_bridge(chance, skin, 3), chance_bridge(chance, skin, 3)
            loop = chance_round(chance, skin, 5)
            led_one, led_other = led_bridge(skin, images, one), led_bridge(skin, images, other)
            led_loop = led_round(skin, images, loop)
            if max(len(led_one[1]), len(led_other[1]), len(led_loop)) <= 40:
                self.assertEqual(bridges_crossed(skin, led_one, led_other), bridges_crossed(skin, one, other))
                self.assertEqual(overpasses(skin, led_one, led_loop), overpasses(skin, one, loop))

    def test_led_fans(self):
        chance = chance_of(5)
        done = 0
        while done < 40:
            skin = chance_skin(chance, chance.randint(2, 5))
            fan = chance_fan(chance, skin, 6)
            images = self.chance_images(chance, skin, 1)
            try:
                told = led_fan(skin, images, fan)
            except TooMany as error:
                self.assertEqual(error.most, 40)
                continue
            done += 1
            self.assertEqual(told, sorted(led_bridge(skin, images, bridge) for bridge in fan))
            self.assertTrue(is_fan(skin, told))
            if forward_rims(skin, images):
                self.assertEqual(pattern(skin, told), pattern(skin, fan))
            numbers = chance_numbers(chance, skin, chance.choice([3, 10 ** 40]))
            row = dict(zip(fan, numbers_on(skin, fan, numbers)))
            new = dict(zip(told, numbers_on(skin, told, led_bundle(skin, images, numbers))))
            for bridge in fan:
                self.assertEqual(new[led_bridge(skin, images, bridge)], row[bridge])

    def test_long_words(self):
        """Images of nearly two hundred letters, bridges of nearly forty: what is led may be far longer."""
        chance = chance_of(11)
        for _ in range(4):
            skin = chance_skin(chance, chance.choice([4, 6]))
            images = own_images(skin)
            for _ in range(60):
                try:
                    images = behind(skin, images, twist(skin, chance_simple(chance, skin, 3), chance.choice([-1, 1])))
                except TooMany:
                    pass
            self.assertGreater(max(map(len, images)), 100)
            bridge = max(chance_fan(chance, skin, 200), key=lambda one: len(one[1]))
            told = led_bridge(skin, images, bridge)
            self.assertEqual(bridge_of(skin, *told) if len(told[1]) <= 200 else told, told)
            numbers = chance_numbers(chance, skin, 10 ** 30)
            fan = chance_fan(chance, skin, 200)
            crossed = numbers_on(skin, fan, numbers)
            new = led_bundle(skin, images, numbers)
            self.assertGreaterEqual(sum(crossed), 0)
            loop = chance_simple(chance, skin, 3)
            if len(led_round(skin, images, loop)) <= 40:
                self.assertEqual(crossed_by(skin, new, led_round(skin, images, loop)), crossed_by(skin, numbers, loop))

    def test_done_and_undone(self):
        chance = chance_of(6)
        for _ in range(40):
            skin = chance_skin(chance, chance.randint(2, 5))
            images = self.chance_images(chance, skin, 2)
            bridge = chance_bridge(chance, skin, 2)
            told = led_bridge(skin, images, bridge)
            if len(told[1]) <= 40:
                try:
                    self.assertEqual(led_bridge(skin, undone_change(skin, images), told), bridge)
                except TooMany:
                    pass
            self.assertEqual(led_bridge(skin, own_images(skin), bridge), bridge)
            loop = chance_simple(chance, skin, 4)
            free = overpasses(skin, bridge, loop) == 0
            try:
                images = twist(skin, loop, 2)
            except TooMany:
                continue
            self.assertIs(led_bridge(skin, images, bridge) == bridge, free or loop in self.rim_rounds(skin))

    def rim_rounds(self, skin):
        return rims(skin) + [closed_up(gone_back(rim)) for rim in rims(skin)]

    def test_refused(self):
        same = own_images(TORUS)
        for skin in NO_SKINS + [RING]:
            part = ("part", "bands" if skin is RING else None)
            check_error(self, BadSkin, part, led_bridge, skin, None, None)
            check_error(self, BadSkin, part, led_fan, skin, None, None)
            check_error(self, BadSkin, part, fan_changes, skin, None, None)
        for images in ODD_VALUES + [same[:3], [(0, 2), (1,), (2,), (3,)]]:
            check_error(self, BadImages, None, led_bridge, TORUS, images, None)
            check_error(self, BadImages, None, led_fan, TORUS, images, None)
        check_error(self, BadImages, None, led_bridge, HOLES, [(0, 2), (3, 1), (2,), (3,)], None)
        for thing in ODD_VALUES + [(2, (), 3), [0, (), 1]]:
            check_error(self, BadBridge, None, led_bridge, TORUS, same, thing)
        for thing in ODD_VALUES + [FIRST[::-1]]:
            check_error(self, BadFan, ("part", None), led_fan, TORUS, same, thing)
            check_error(self, BadFan, ("part", "one"), fan_changes, TORUS, thing, None)
            check_error(self, BadFan, ("part", "other"), fan_changes, TORUS, FIRST, thing)
        images, fan = twist(TORUS, (0,), 9), FIRST
        for _ in range(4):
            fan = led_fan(TORUS, images, fan)
        check_error(self, TooMany, ("most", 40), led_fan, TORUS, images, fan)
        longest = max(fan, key=lambda bridge: len(bridge[1]))
        self.assertGreater(len(led_bridge(TORUS, images, longest)[1]), 40)
        self.assertEqual(led_bridge(skin=TORUS, images=same, bridge=FIRST[0]), FIRST[0])
        told = led_fan(skin=TORUS, images=same, fan=FIRST)
        told.append(None)
        self.assertEqual(led_fan(TORUS, same, FIRST), FIRST)


class ChangesTest(unittest.TestCase):
    def check_changes(self, skin, one, other):
        told = fan_changes(skin, one, other)
        alike = pattern(skin, one) == pattern(skin, other)
        self.assertEqual(len(told), symmetries(skin, one) if alike else 0)
        loops = all_rounds(skin, 2) if skin.bands < 4 else [(letter,) for letter in range(2 * skin.bands)]
        seen = []
        for images in told:
            for letter, word in enumerate(images):
                self.assertEqual(cut_free(word), word)
                self.assertEqual(images[letter ^ 1], gone_back(word))
            if max(map(len, images)) <= 200:
                self.assertTrue(is_change(skin, images))
                self.assertTrue(forward_rims(skin, images))
                self.assertEqual(sorted(led_bridge(skin, images, bridge) for bridge in one), list(other))
                seen.append([led_round(skin, images, loop) for loop in loops])
        for at, rounds in enumerate(seen):
            self.assertNotIn(rounds, seen[at + 1:])
        return len(told)

    def test_from_fan_to_fan(self):
        chance = chance_of(7)
        seen = [0, 0]
        for _ in range(60):
            skin = chance_skin(chance, chance.randint(2, 4))
            one, other = [chance_fan(chance, skin, chance.choice([0, 3, 15])) for _ in range(2)]
            seen[self.check_changes(skin, one, other) > 0] += 1
        self.assertGreater(min(seen), 4)

    def test_led_fans(self):
        chance = chance_of(8)
        done = 0
        while done < 25:
            skin = chance_skin(chance, chance.randint(2, 6))
            one = chance_fan(chance, skin, 8)
            try:
                other = led_fan(skin, chance_change(chance, skin, 3), one)
            except TooMany:
                continue
            done += 1
            self.assertGreater(self.check_changes(skin, one, tuple(other)), 0)

    def test_one_handle(self):
        """On one handle all fans are alike: six changes, two of which lead each bridge to itself."""
        told = fan_changes(skin=TORUS, one=FIRST, other=FIRST)
        self.assertEqual(len(told), 6)
        still = [images for images in told if all(led_bridge(TORUS, images, bridge) == bridge for bridge in FIRST)]
        self.assertEqual(sorted(led_round(TORUS, images, (0,)) for images in still), [(0,), (1,)])
        told.append(None)
        self.assertEqual(len(fan_changes(TORUS, FIRST, FIRST)), 6)

    def test_changes_follow_one_another(self):
        """Changes of a fan to itself, done one behind the other, are again such, up to what leads all rounds alike."""
        chance = chance_of(9)
        for _ in range(12):
            skin = chance_skin(chance, chance.randint(2, 4))
            fan = chance_fan(chance, skin, 4)
            told = fan_changes(skin, fan, fan)
            loops = [(letter,) for letter in range(2 * skin.bands)] + all_rounds(skin, 2)[:30]
            rows = [[led_round(skin, images, loop) for loop in loops] for images in told]
            for one in told:
                for other in told:
                    both = behind(skin, one, other)
                    self.assertIn([led_round(skin, both, loop) for loop in loops], rows)

    def test_twists_beside_leads(self):
        """A fan led by a twist has on it the row of a bundle that the twist leads ([85], [94], [95])."""
        chance = chance_of(10)
        done = 0
        while done < 30:
            skin = chance_skin(chance, chance.randint(2, 5))
            loop, times = chance_simple(chance, skin, 4), chance.choice([-2, -1, 1, 2, 3])
            fan, numbers = first_fan(skin), chance_numbers(chance, skin, 10 ** 30)
            try:
                images = twist(skin, loop, times)
                told = led_fan(skin, images, fan)
            except TooMany:
                continue
            done += 1
            row = dict(zip(fan, numbers_on(skin, fan, numbers)))
            new = dict(zip(told, numbers_on(skin, told, twisted_bundle(skin, loop, times, numbers))))
            self.assertEqual({bridge: new[led_bridge(skin, images, bridge)] for bridge in fan}, row)


if __name__ == "__main__":
    unittest.main()
