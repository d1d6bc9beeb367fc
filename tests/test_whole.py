"""Promises k88 to k95: what the document promises over several of its parts, at drawn inputs."""

import unittest

from tautrounds.best import best_drawing
from tautrounds.brackets import bracket
from tautrounds.bundles import bundles_crossed, divided, is_apart, is_bundle, laid, multiplied, numbers_of
from tautrounds.changes import led_sum, undone_change
from tautrounds.cuts import home, parts, sides
from tautrounds.drawings import crossed_number
from tautrounds.errors import NotNow, TooMany
from tautrounds.fannumbers import is_numbers_on, numbers_from, numbers_on
from tautrounds.fans import completed, first_fan, is_fan
from tautrounds.flips import fewest_flips, flip_way, flipped, nearer
from tautrounds.leads import led_bundle, slid_bundle, twisted_bundle
from tautrounds.linked import crossings, own_crossings
from tautrounds.overpasses import bridges_crossed, overpasses, own_overpasses
from tautrounds.patterns import fan_changes, led_bridge, led_fan, pattern, patterns, symmetries
from tautrounds.pieces import fills, free_round, pieces
from tautrounds.roundkinds import kinds, rounds_many
from tautrounds.rounds import along, round_of, turned_about
from tautrounds.simple import is_simple
from tautrounds.skins import Skin, genus, mirrored, renamed, rims
from tautrounds.slides import led, plain_skin, plain_way, slid, way_images
from tautrounds.splits import split
from tautrounds.strips import crossed_by, rim_times, without_rims
from tautrounds.sums import weight
from tautrounds.twists import twist
from tests.helpers import (
    TORUS, across, all_rounds, around, chance_apart, chance_bridge, chance_change, chance_fan, chance_numbers,
    chance_of, chance_renaming, chance_round, chance_simple, chance_skin, chance_turning, forward_rims, led_round,
)


def rows_of(skin, fan, numbers):
    """The dict from the bridges of a fan to a bundle's numbers on them."""
    return dict(zip(fan, numbers_on(skin, fan, numbers)))


class Crossings(unittest.TestCase):
    """k88: crossings told by linked pairs, brackets, strips, leads, two bundles and fans."""

    def test_all_tell_the_same(self):
        chance = chance_of(1)
        for _ in range(60):
            skin = chance_skin(chance, chance.randint(2, 5))
            one, other = chance_simple(chance, skin, 6), chance_round(chance, skin, 8)
            many, numbers = crossings(skin, one, other), numbers_of(skin, [one])
            self.assertEqual(weight(skin, bracket(skin, {one: 1}, {other: 1})), many)
            self.assertEqual(crossed_by(skin, numbers, other), many)
            self.assertEqual(crossed_by(skin, multiplied(skin, numbers, 10 ** 9), other), 10 ** 9 * many)
            if is_simple(skin, other):
                told = numbers_of(skin, [other])
                self.assertEqual(bundles_crossed(skin, numbers, told), many)
                self.assertIs(is_apart(skin, numbers, told), many == 0)
                images = chance_change(chance, skin, 2)
                rows = [led_bundle(skin, images, row) for row in (numbers, told)]
                self.assertEqual(bundles_crossed(skin, *rows), many)
                times = chance.choice([-10 ** 12, -3, 2, 10 ** 12])
                far = twisted_bundle(skin, one, times, told)
                self.assertEqual(bundles_crossed(skin, far, told), abs(times) * many ** 2)
                self.assertEqual(bundles_crossed(skin, far, numbers), many)

    def test_led_numbers_on_led_fans(self):
        chance = chance_of(2)
        for _ in range(40):
            skin = chance_skin(chance, chance.randint(2, 5))
            numbers, fan = chance_numbers(chance, skin, 10 ** 20), chance_fan(chance, skin, 5)
            loop, images = chance_round(chance, skin, 5), chance_change(chance, skin, 1)
            try:
                other = led_fan(skin, images, fan)
            except TooMany:
                continue
            new = led_bundle(skin, images, numbers)
            rows = rows_of(skin, fan, numbers), rows_of(skin, other, new)
            self.assertEqual({led_bridge(skin, images, bridge): rows[0][bridge] for bridge in fan}, rows[1])
            if len(led_round(skin, images, loop)) <= 40:
                self.assertEqual(crossed_by(skin, new, led_round(skin, images, loop)), crossed_by(skin, numbers, loop))

    def test_what_no_bridge_of_a_fan_crosses_is_nothing(self):
        """Each round crosses a bridge of each fan; the sum over a triangle's sides is twice its lines."""
        chance = chance_of(3)
        for _ in range(60):
            skin = chance_skin(chance, chance.randint(2, 5))
            fan, loop = chance_fan(chance, skin, 8), chance_round(chance, skin, 6)
            row = [overpasses(skin, bridge, loop) for bridge in fan]
            self.assertGreater(sum(row), 0)
            if is_simple(skin, loop):
                self.assertEqual(numbers_on(skin, fan, numbers_of(skin, [loop])), tuple(row))


class Parts(unittest.TestCase):
    """k89: cuts, kinds, laying side by side, two bundles, and fans."""

    def test_rounds_of_parts_lie_apart(self):
        chance = chance_of(4)
        for _ in range(50):
            skin = chance_skin(chance, chance.randint(2, 4))
            rounds = chance_apart(chance, skin, 3, 4)
            numbers = numbers_of(skin, rounds)
            loop = chance_simple(chance, skin, 5)
            told = numbers_of(skin, [loop])
            apart = is_apart(skin, numbers, told)
            self.assertIs(home(skin, rounds, loop) is not None, apart)
            together = kinds(skin, laid(skin, numbers, told))
            each = {}
            for one, many in kinds(skin, numbers) + kinds(skin, told):
                each[one] = each.get(one, 0) + many
            self.assertIs(together == sorted(each.items()), apart)
            self.assertEqual(bundles_crossed(skin, numbers, told), sum(crossings(skin, loop, one) for one in rounds))

    def test_kinds_and_parts(self):
        """Cut along one round of each kind that is no rim: each part is no ring, and there are as many sides."""
        chance = chance_of(5)
        for _ in range(50):
            skin = chance_skin(chance, chance.randint(2, 4))
            rounds = []
            for loop in chance_apart(chance, skin, 5, 4):
                at_rim = any(along(skin, loop, rim) for rim in rims(skin))
                if not at_rim and not any(along(skin, loop, other) for other in rounds):
                    rounds.append(loop)
            numbers = numbers_of(skin, rounds)
            self.assertEqual((len(kinds(skin, numbers)), rounds_many(skin, numbers)), (len(rounds), len(rounds)))
            self.assertEqual(without_rims(skin, numbers), numbers)
            told = parts(skin, rounds)
            self.assertEqual(sum(1 - part.bands for _, part, _ in told), 1 - skin.bands)
            self.assertTrue(all(part.bands > 1 for _, part, _ in told))
            self.assertEqual(sum(len(labels) for labels, _, _ in told), len(rims(skin)) + 2 * len(rounds))

    def test_parts_lead_their_bundles(self):
        """A simple round of a part is led to one of the skin, whose numbers lie apart from those of the cut."""
        chance = chance_of(6)
        for _ in range(40):
            skin = chance_skin(chance, chance.randint(2, 4))
            rounds = chance_apart(chance, skin, 2, 4)
            numbers = numbers_of(skin, rounds)
            for _, part, images in parts(skin, rounds):
                own = chance_apart(chance, part, 2, 3)
                word = [round_of(skin, led_word(images, loop)) for loop in own]
                if all(len(loop) <= 40 for loop in word):
                    told = numbers_of(skin, word)
                    self.assertTrue(is_apart(skin, numbers, told))
                    self.assertEqual(rounds_many(skin, told), rounds_many(part, numbers_of(part, own)))
                    fan = chance_fan(chance, skin, 4)
                    row = zip(numbers_on(skin, fan, numbers), numbers_on(skin, fan, told))
                    self.assertEqual(numbers_on(skin, fan, laid(skin, numbers, told)), tuple(a + b for a, b in row))

    def test_bridges_that_cross_no_round(self):
        """A fan completed from bridges that cross no round of a bundle has 0 there, and the bundle comes of its row."""
        chance = chance_of(7)
        for _ in range(40):
            skin = chance_skin(chance, chance.randint(2, 4))
            numbers = numbers_of(skin, chance_apart(chance, skin, 3, 4))
            free = []
            for _ in range(12):
                bridge = chance_bridge(chance, skin, 3)
                apart = not any(bridges_crossed(skin, bridge, other) for other in free + [bridge])
                if apart and bridge not in free and self.number(skin, bridge, numbers) == 0:
                    free.append(bridge)
            fan = completed(skin, free)
            if max(len(word) for _, word, _ in fan) <= 40:
                row = numbers_on(skin, fan, numbers)
                self.assertTrue(all(number == 0 for bridge, number in zip(fan, row) if bridge in free))
                self.assertEqual(numbers_from(skin, fan, row), numbers)

    def number(self, skin, bridge, numbers):
        fan = completed(skin, [bridge])
        return numbers_on(skin, fan, numbers)[fan.index(bridge)] if is_fan(skin, fan) else None


def led_word(images, loop):
    return tuple(letter for one in loop for letter in images[one])


class Twists(unittest.TestCase):
    """k90: twists of letters, bundles, fans and patterns."""

    def test_twists_of_all(self):
        chance = chance_of(8)
        done = 0
        while done < 30:
            skin = chance_skin(chance, chance.randint(2, 4))
            loop, times, fan = chance_simple(chance, skin, 4), chance.choice([-2, -1, 1, 2]), first_fan(skin)
            try:
                images = twist(skin, loop, times)
                other = led_fan(skin, images, fan)
            except TooMany:
                continue
            done += 1
            numbers = chance_numbers(chance, skin, 3)
            self.assertEqual(twisted_bundle(skin, loop, times, numbers), led_bundle(skin, images, numbers))
            self.assertEqual((pattern(skin, other), symmetries(skin, other)), (pattern(skin, fan), symmetries(skin, fan)))
            rounds = [(letter,) for letter in range(2 * skin.bands)] + all_rounds(skin, 2)[:20]
            rows = [[led_round(skin, change, one) for one in rounds] for change in fan_changes(skin, fan, other)]
            self.assertIn([led_round(skin, images, one) for one in rounds], rows)
            for bridge in fan:
                led_one = led_bridge(skin, images, bridge)
                self.assertEqual(overpasses(skin, led_one, loop), overpasses(skin, bridge, loop))
                self.assertEqual(bridges_crossed(skin, led_one, led_one), 0)

    def test_flips_of_twists(self):
        for times in (-7, -4, 1, 3, 6):
            fan = first_fan(TORUS)
            other = led_fan(TORUS, twist(TORUS, (0,), times), fan)
            self.assertEqual(fewest_flips(TORUS, fan, other), abs(times))
            self.assertEqual(len(flip_way(TORUS, fan, other)), abs(times))
            numbers = (5, 8, 3)
            row = rows_of(TORUS, other, twisted_bundle(TORUS, (0,), times, numbers))
            self.assertEqual(sorted(row.values()), sorted(numbers_on(TORUS, fan, numbers)))

    def test_patterns_led_the_other_way_round(self):
        """A change that turns rims about leads fans to fans; done twice it leads rims forward."""
        chance = chance_of(9)
        done = 0
        while done < 15:
            skin = chance_skin(chance, chance.randint(2, 4))
            images = chance_turning(chance, skin)
            if images is None or forward_rims(skin, images):
                continue
            done += 1
            fan = chance_fan(chance, skin, 5)
            other = led_fan(skin, images, led_fan(skin, images, fan))
            self.assertEqual(pattern(skin, other), pattern(skin, fan))
            loop = chance_simple(chance, skin, 4)
            numbers = chance_numbers(chance, skin, 50)
            # Twisted and then led is led and then twisted the other way round.
            first = led_bundle(skin, images, twisted_bundle(skin, loop, 11, numbers))
            second = twisted_bundle(skin, led_round(skin, images, loop), -11, led_bundle(skin, images, numbers))
            self.assertEqual(first, second)


class OtherSkins(unittest.TestCase):
    """k91: renamed, mirrored and slid skins: brackets, splits, bundles, rows on fans and patterns."""

    def test_renamed_and_mirrored(self):
        chance = chance_of(10)
        for _ in range(40):
            skin = chance_skin(chance, chance.randint(2, 4))
            letters = chance_renaming(chance, skin.bands)
            new, glass = renamed(skin, letters), mirrored(skin)
            rounds = chance_apart(chance, skin, 3, 4)
            moved = [round_of(new, tuple(letters[letter] for letter in loop)) for loop in rounds]
            one, other = numbers_of(skin, rounds), numbers_of(new, moved)
            for band in range(skin.bands):
                self.assertEqual(other[letters[2 * band] // 2], one[band])
            self.assertEqual(numbers_of(glass, rounds)[:skin.bands], one[:skin.bands])
            self.assertEqual(sorted(many for _, many in kinds(new, other)), sorted(many for _, many in kinds(skin, one)))
            x, y = chance_round(chance, skin, 5), chance_round(chance, skin, 5)
            self.assertEqual(crossed_by(glass, numbers_of(glass, rounds), x), crossed_by(skin, one, x))
            turned = {loop: -number for loop, number in bracket(skin, {x: 1}, {y: 1}).items()}
            self.assertEqual(bracket(glass, {x: 1}, {y: 1}), turned)
            turned = {pair: -number for pair, number in split(skin, {x: 1}).items()}
            self.assertEqual(split(glass, {x: 1}), turned)
            self.assertEqual(patterns(glass), patterns(skin))
            self.assertEqual(patterns(new), patterns(skin))

    def test_slides_to_the_plain_skin(self):
        """Step by step along a plain way: numbers are led as the rounds, and rows of rims stay."""
        chance = chance_of(11)
        for _ in range(40):
            skin = chance_skin(chance, chance.randint(2, 5))
            rounds = chance_apart(chance, skin, 3, 3)
            way, numbers, here, loops = plain_way(skin), numbers_of(skin, rounds), skin, rounds
            for step in way:
                if step[0] == "slide":
                    new, images = slid(here, step[1], step[2])
                    numbers = slid_bundle(here, step[1], step[2], numbers)
                    loops = [round_of(new, led(here, images, loop)) for loop in loops]
                    here = new
                    self.assertTrue(is_bundle(here, numbers))
                    if max(map(len, loops)) <= 40 and sum(map(len, loops)) <= 80:
                        self.assertEqual(numbers, numbers_of(here, loops))
            plain = plain_skin(genus(skin), len(rims(skin)))
            images = way_images(skin, way)
            there = [round_of(plain, led_word(images, loop)) for loop in rounds]
            if max(map(len, there)) <= 40 and sum(map(len, there)) <= 80:
                told = numbers_of(plain, there)
                self.assertEqual(sorted(many for _, many in kinds(plain, told)),
                                 sorted(many for _, many in kinds(here, numbers)))
                self.assertEqual(sorted(told[:plain.bands]), sorted(numbers[:plain.bands]))

    def test_brackets_follow_changes(self):
        chance = chance_of(12)
        for _ in range(40):
            skin = chance_skin(chance, chance.randint(2, 4))
            x, y = chance_simple(chance, skin, 3), chance_round(chance, skin, 3)
            images = chance_change(chance, skin, 1)
            first, second = led_round(skin, images, x), led_round(skin, images, y)
            if max(len(first), len(second)) > 40:
                continue
            some = bracket(skin, {x: 1}, {y: 1})
            if all(len(loop) <= 40 for loop in some):
                self.assertEqual(led_sum(skin, images, some), bracket(skin, {first: 1}, {second: 1}))
            self.assertEqual(weight(skin, bracket(skin, {first: 1}, {second: 1})) if first else 0,
                             crossed_by(skin, led_bundle(skin, images, numbers_of(skin, [x])), second))


class Drawn(unittest.TestCase):
    """k93: drawings, pieces, numbers of bundles, bridges, overpasses and led bridges."""

    def test_bundles_drawn(self):
        chance = chance_of(13)
        for _ in range(50):
            skin = chance_skin(chance, chance.randint(2, 5))
            rounds = chance_apart(chance, skin, 4, 5)
            numbers, drawing = numbers_of(skin, rounds), best_drawing(skin, rounds)
            self.assertEqual(crossed_number(drawing), 0)
            self.assertEqual(tuple(len(row) for row in drawing.rows), numbers[:skin.bands])
            for gap in range(2 * skin.bands):
                many = sum(overpasses(skin, around(skin, gap), loop) for loop in rounds)
                self.assertEqual(many, len(drawing.rows[skin.row[gap] // 2]))
            for gap in range(2, 2 * skin.bands - 1):
                many = sum(overpasses(skin, across(skin, gap), loop) for loop in rounds)
                self.assertEqual(many, numbers[skin.bands + gap - 2])
                self.assertEqual(many, self.chords_over(skin, rounds, gap))
            told = pieces(drawing)
            self.assertEqual(sum(number for number, _ in told), 1 - skin.bands)
            self.assertEqual(sorted(rim for _, at in told for rim in at), list(range(len(rims(skin)))))
            self.assertEqual(len(told), len(parts(skin, rounds)))

    def chords_over(self, skin, rounds, gap):
        """How many chords part gap 0 from another gap."""
        ends = [(skin.row.index(loop[at - 1] ^ 1), skin.row.index(loop[at])) for loop in rounds for at in range(len(loop))]
        return sum((one < gap) != (other < gap) for one, other in ends)

    def test_rounds_that_fill_are_crossed_by_all(self):
        chance = chance_of(14)
        seen = [0, 0]
        for _ in range(60):
            skin = chance_skin(chance, chance.randint(2, 3))
            rounds = [chance_simple(chance, skin, 4) for _ in range(chance.randint(1, 4))]
            free = free_round(skin, rounds)
            seen[fills(skin, rounds)] += 1
            self.assertIs(fills(skin, rounds), free is None)
            loop = chance_simple(chance, skin, 5)
            inner = not any(along(skin, loop, rim) for rim in rims(skin))
            crossed = sum(crossed_by(skin, numbers_of(skin, [one]), loop) for one in rounds)
            if inner and free is None:
                self.assertGreater(crossed, 0)
        self.assertGreater(min(seen), 5)

    def test_bridges_led_with_their_rounds(self):
        chance = chance_of(15)
        for _ in range(50):
            skin = chance_skin(chance, chance.randint(2, 4))
            bridge, loop = chance_bridge(chance, skin, 4), chance_round(chance, skin, 5)
            images = chance_change(chance, skin, 1)
            other, new = led_bridge(skin, images, bridge), led_round(skin, images, loop)
            if max(len(other[1]), len(new)) <= 40:
                self.assertEqual(overpasses(skin, other, new), overpasses(skin, bridge, loop))
                self.assertEqual(own_overpasses(skin, other), own_overpasses(skin, bridge))
                try:
                    self.assertEqual(led_bridge(skin, undone_change(skin, images), other), bridge)
                except TooMany:
                    pass

    def test_rims_and_patterns(self):
        """On each fan rims have twice as many ends, all together, as there are bridges."""
        chance = chance_of(16)
        for _ in range(40):
            skin = chance_skin(chance, chance.randint(2, 6))
            fan = chance_fan(chance, skin, 10)
            ends = [sum(overpasses(skin, bridge, rim) for bridge in fan) for rim in rims(skin)]
            self.assertEqual(sum(ends), 2 * len(fan))
            self.assertGreater(min(ends), 0)
            row = numbers_on(skin, fan, numbers_of(skin, rims(skin)[:1]))
            self.assertEqual(sum(row), ends[0])
            self.assertEqual(len(pattern(skin, fan)), 2 * skin.bands - 2)


class Kinds(unittest.TestCase):
    """k94: kinds, parts of bundles, flips, and numbers on fans."""

    def test_rows_of_kinds_add_up(self):
        chance = chance_of(17)
        for _ in range(50):
            skin = chance_skin(chance, chance.randint(2, 6))
            fan, numbers = chance_fan(chance, skin, 8), chance_numbers(chance, skin, 10 ** 30)
            row, sums = numbers_on(skin, fan, numbers), [0] * len(fan)
            for one, many in kinds(skin, numbers):
                sums = [a + many * b for a, b in zip(sums, numbers_on(skin, fan, one))]
            self.assertEqual(tuple(sums), row)
            times = chance.choice([2, 10 ** 9])
            great = numbers_on(skin, fan, multiplied(skin, numbers, times))
            self.assertEqual(great, tuple(times * number for number in row))
            share = divided(skin, numbers, 2)
            halves = tuple(number // 2 for number in row)
            if share is not None:
                self.assertEqual(numbers_on(skin, fan, share), halves)
            elif all(number % 2 == 0 for number in row):
                self.assertFalse(is_numbers_on(skin, fan, halves))

    def test_numbers_follow_a_course_of_flips(self):
        chance = chance_of(18)
        for _ in range(25):
            skin = chance_skin(chance, chance.randint(2, 5))
            fan, numbers = first_fan(skin), chance_numbers(chance, skin, 10 ** 40)
            told = kinds(skin, numbers)
            for _ in range(12):
                try:
                    fan, _ = flipped(skin, fan, chance.randrange(len(fan)))
                except (NotNow, TooMany):
                    continue
                try:
                    row = numbers_on(skin, fan, numbers)
                except TooMany:
                    continue
                self.assertEqual(numbers_from(skin, fan, row), numbers)
                self.assertEqual(kinds(skin, numbers_from(skin, fan, row)), told)

    def test_crossed_less_often_nearer_by(self):
        """A bridge beside a round that goes close by it: flips that are nearer lead to a fan that has the bridge."""
        chance = chance_of(19)
        for _ in range(25):
            skin = chance_skin(chance, chance.randint(2, 4))
            bridge = chance.choice(chance_fan(chance, skin, 12))
            fan, steps = first_fan(skin), 0
            while bridge not in fan:
                places = nearer(skin, fan, bridge)
                crossed = [bridges_crossed(skin, bridge, other) for other in fan]
                place = max(places, key=lambda at: crossed[at])
                fan, new = flipped(skin, fan, place)
                self.assertLess(bridges_crossed(skin, bridge, new), crossed[place])
                steps += 1
            self.assertEqual(nearer(skin, fan, bridge), [])
            self.assertLessEqual(steps, 200)

    def test_rim_times_on_fans(self):
        chance = chance_of(20)
        for _ in range(40):
            skin = chance_skin(chance, chance.randint(2, 5))
            fan, numbers = chance_fan(chance, skin, 6), chance_numbers(chance, skin, 30)
            left = without_rims(skin, numbers)
            rows = [numbers_on(skin, fan, row) for row in (numbers, left)]
            ends = [0] * len(fan)
            for rim, times in zip(rims(skin), rim_times(skin, numbers)):
                ends = [a + times * overpasses(skin, bridge, rim) for a, bridge in zip(ends, fan)]
            self.assertEqual([a - b for a, b in zip(*rows)], ends)
            # Without rims some corner of the triangles at each rim has no line.
            self.assertEqual(rim_times(skin, left), [0] * len(rims(skin)))


class Leads(unittest.TestCase):
    """k95: leads, numbers on fans, and changes from fan to fan."""

    def test_alike_fans_have_alike_bundles(self):
        """A change from fan to fan leads the bundle with a row to that with the same row, bridge by bridge."""
        chance = chance_of(21)
        done = 0
        while done < 30:
            skin = chance_skin(chance, chance.randint(2, 5))
            fan = chance_fan(chance, skin, 4)
            try:
                other = led_fan(skin, chance_change(chance, skin, 1), fan)
            except TooMany:
                continue
            done += 1
            numbers = chance_numbers(chance, skin, 10 ** 30)
            row = rows_of(skin, fan, numbers)
            for images in fan_changes(skin, fan, other):
                if max(map(len, images)) <= 200:
                    wanted = {led_bridge(skin, images, bridge): row[bridge] for bridge in fan}
                    new = led_bundle(skin, images, numbers)
                    self.assertEqual(rows_of(skin, other, new), wanted)
                    self.assertEqual(numbers_from(skin, other, tuple(wanted[bridge] for bridge in other)), new)

    def test_undone_changes_lead_fans_back(self):
        chance = chance_of(22)
        done = 0
        while done < 25:
            skin = chance_skin(chance, chance.randint(2, 5))
            images = chance_change(chance, skin, 2)
            fan, numbers = chance_fan(chance, skin, 3), chance_numbers(chance, skin, 10 ** 30)
            try:
                back, other = undone_change(skin, images), led_fan(skin, images, fan)
            except TooMany:
                continue
            done += 1
            self.assertEqual(led_fan(skin, back, other), fan)
            self.assertEqual(led_bundle(skin, back, led_bundle(skin, images, numbers)), numbers)

    def test_twists_far_off_on_fans(self):
        """Far off a bundle's row on a fan grows by just as much with each further twist."""
        chance = chance_of(23)
        for _ in range(30):
            skin = chance_skin(chance, chance.randint(2, 5))
            fan, loop = chance_fan(chance, skin, 5), chance_simple(chance, skin, 5)
            numbers = chance_numbers(chance, skin, 1000)
            c = crossed_by(skin, numbers, loop)
            step = numbers_on(skin, fan, numbers_of(skin, [loop]))
            rows = [numbers_on(skin, fan, twisted_bundle(skin, loop, 10 ** 11 + k, numbers)) for k in (0, 1)]
            self.assertEqual([b - a for a, b in zip(*rows)], [c * number for number in step])

    def test_sides_of_rounds_stay(self):
        chance = chance_of(24)
        for _ in range(30):
            skin = chance_skin(chance, chance.randint(2, 4))
            loop, images = chance_simple(chance, skin, 3), chance_change(chance, skin, 1)
            new = led_round(skin, images, loop)
            if len(new) <= 40:
                self.assertEqual(own_crossings(skin, new), 0)
                if forward_rims(skin, images):
                    self.assertEqual(sides(skin, new), sides(skin, loop))
                self.assertEqual(kinds(skin, led_bundle(skin, images, numbers_of(skin, [loop]))),
                                 [(numbers_of(skin, [new]), 1)])
                self.assertEqual(numbers_of(skin, [turned_about(skin, new)]), numbers_of(skin, [new]))


class SkinsAlike(unittest.TestCase):
    def test_patterns_tell_genus_and_rims(self):
        rows = [(0, 2, 1, 3), (0, 1, 2, 3), (0, 2, 1, 3, 4, 5), (0, 1, 2, 3, 4, 5), (0, 4, 1, 2, 5, 3)]
        told = {}
        for row in rows:
            skin = Skin(row)
            key = (genus(skin), len(rims(skin)))
            self.assertEqual(told.setdefault(key, patterns(skin)), patterns(skin))
        self.assertEqual(len({str(value) for value in told.values()}), len(told))


if __name__ == "__main__":
    unittest.main()
