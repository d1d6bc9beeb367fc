"""Promises [2] (e), (f), [52]: parts of a cut skin, homes, sides, and alike rounds."""

import unittest

from tautrounds.changes import is_change
from tautrounds.cuts import alike_rounds, home, is_parts, parts, sides
from tautrounds.errors import BadRound, BadSkin, NotSimple
from tautrounds.linked import crossings, own_crossings, own_number, pairs_of
from tautrounds.pieces import pieces
from tautrounds.best import best_drawing
from tautrounds.rounds import along, gone, is_round, turned_about
from tautrounds.simple import simple_rounds
from tautrounds.skins import Skin, genus, renamed, rims
from tautrounds.slides import led, slid
from tautrounds.twists import twist
from tautrounds.words import gone_back
from tests.helpers import (
    HOLES, NO_SKINS, ODD_VALUES, RING, TORUS, Counterfeit, all_rounds, chance_apart, chance_change, chance_of,
    chance_renaming, chance_round, chance_simple, chance_skin, chance_word, check_error, images_from, led_round,
    own_images,
)
from tests.test_linked import NO_ROUNDS, check_rounds_errors
from tests.test_slides import slides_of
from tests.test_twists import long_free, long_led

FOUR_RIMS = Skin((0, 1, 2, 3, 4, 5))


def round_at(skin, rounds, label):
    side, place = label
    if side == "rim":
        return rims(skin)[place]
    return rounds[place] if side == "left" else turned_about(skin, rounds[place])


def inner_led(images, word):
    return tuple(letter for one in word for letter in images[one])


def conjugated(images, word):
    return [long_free(word + image + gone_back(word)) for image in images]


class PartsTest(unittest.TestCase):
    def check(self, skin, rounds):
        told = parts(skin, rounds)
        self.assertIs(type(told), list)
        for one in told:
            self.assertIs(type(one), tuple)
            labels, part, images = one
            self.assertEqual((type(labels), type(part), type(images)), (tuple, Skin, list))
            self.assertEqual(len(images), 2 * part.bands)
            for letter in range(2 * part.bands):
                self.assertEqual(images[letter ^ 1], gone_back(images[letter]))
            wanted = [round_at(skin, rounds, label) for label in labels]
            self.assertEqual([long_led(images, rim) for rim in rims(part)], wanted)
        labels = [label for one in told for label in one[0]]
        wanted = [("rim", place) for place in range(len(rims(skin)))]
        wanted += [(side, place) for side in ("left", "right") for place in range(len(rounds))]
        self.assertEqual(sorted(labels), sorted(wanted))
        self.assertEqual(sum(1 - part.bands for _, part, _ in told), 1 - skin.bands)
        least = [min(labels) for labels, _, _ in told]
        self.assertEqual(least, sorted(least))
        numbers = [number for number, _ in pieces(best_drawing(skin, rounds))]
        self.assertEqual(sorted(1 - part.bands for _, part, _ in told), sorted(numbers))
        self.assertIs(is_parts(skin, rounds, told), True)
        self.assertIs(is_parts(skin, rounds, tuple(told)), True)
        self.assertEqual(parts(skin, rounds), told)
        return told

    def test_by_hand(self):
        labels, part, _ = self.check(TORUS, [(0,)])[0]
        self.assertEqual((sorted(labels), part.bands), ([("left", 0), ("right", 0), ("rim", 0)], 2))
        self.assertEqual((genus(part), len(rims(part))), (0, 3))
        told = self.check(FOUR_RIMS, [(0, 2)])
        self.assertEqual([sorted(labels) for labels, _, _ in told], [
            [("left", 0), ("rim", 1), ("rim", 2)], [("right", 0), ("rim", 0), ("rim", 3)],
        ])

    def test_left_and_right(self):
        # Who goes along (0,) of the row (0, 1) has that rim to the right: the ring to the left has the other rim.
        told = self.check(RING, [(0,)])
        self.assertEqual([sorted(labels) for labels, _, _ in told], [
            [("left", 0), ("rim", 1)], [("right", 0), ("rim", 0)],
        ])
        self.assertEqual([sorted(labels) for labels, _, _ in self.check(RING, [(1,)])], [
            [("left", 0), ("rim", 0)], [("right", 0), ("rim", 1)],
        ])

    def test_no_rounds(self):
        for skin in (RING, TORUS, HOLES, FOUR_RIMS):
            told = self.check(skin, [])
            self.assertEqual(len(told), 1)
            self.assertEqual(sorted(told[0][0]), [("rim", place) for place in range(len(rims(skin)))])
            own = (tuple(("rim", place) for place in range(len(rims(skin)))), skin, own_images(skin))
            self.assertIs(is_parts(skin, [], [own]), True)

    def test_by_chance(self):
        chance = chance_of(360)
        for bands in (1, 2, 2, 3, 4, 5, 6):
            for _ in range(20):
                skin = chance_skin(chance, bands)
                self.check(skin, chance_apart(chance, skin, chance.randint(1, 6), 6))

    def test_rounds_along_one_another(self):
        chance = chance_of(361)
        for bands in (1, 2, 3, 4, 6):
            for _ in range(8):
                skin = chance_skin(chance, bands)
                loop = chance.choice([chance_simple(chance, skin, 5), rims(skin)[0]])
                rounds = [chance.choice([loop, turned_about(skin, loop)]) for _ in range(4)]
                told = self.check(skin, rounds)
                rings = [labels for labels, part, _ in told if part.bands == 1]
                is_rim = any(along(skin, loop, rim) for rim in rims(skin))
                if bands > 1:
                    self.assertEqual(len(rings), 4 if is_rim else 3)
                else:
                    self.assertEqual(len(rings), 5)
        told = self.check(TORUS, [(0,)] * 8)
        self.assertEqual([part.bands for _, part, _ in told].count(1), 7)

    def test_led_to_exactly_if_nothing_is_crossed(self):
        chance = chance_of(362)
        seen = []
        for bands in (2, 2, 3, 4, 5, 6):
            for _ in range(10):
                skin = chance_skin(chance, bands)
                rounds = chance_apart(chance, skin, 3, 5)
                told = parts(skin, rounds)
                for _, part, images in told:
                    x, y = chance_round(chance, part, 4), chance_round(chance, part, 4)
                    led_x, led_y = long_led(images, x), long_led(images, y)
                    for loop in rounds:
                        self.assertEqual(pairs_of(skin, led_x, loop), [])
                    self.assertEqual(own_number(skin, led_x), own_crossings(part, x))
                    self.assertEqual(len(pairs_of(skin, led_x, led_y)), crossings(part, x, y))
                    if len(led_x) <= 40:
                        self.assertIsNotNone(home(skin, rounds, led_x))
                for _ in range(8):
                    loop = chance_round(chance, skin, 5)
                    is_free = not any(crossings(skin, loop, other) for other in rounds)
                    seen.append(is_free)
                    self.assertEqual(home(skin, rounds, loop) is not None, is_free)
        self.assertTrue(60 < seen.count(True) < len(seen) - 60)

    def test_what_is_handed_in_stays(self):
        rounds = [(0,), (0,)]
        told = parts(skin=TORUS, rounds=rounds)
        self.assertEqual(parts(TORUS, tuple(rounds)), told)
        told[0][2].append(None)
        told.append(None)
        self.assertEqual(len(parts(TORUS, rounds)), 2)
        self.assertEqual(len(parts(TORUS, rounds)[0][2]), 2 * parts(TORUS, rounds)[0][1].bands)
        self.assertEqual(rounds, [(0,), (0,)])

    def test_errors_in_sequence(self):
        for act, rest in ((parts, []), (is_parts, [None]), (home, [None])):
            check_rounds_errors(self, act, *rest)
            for rounds in ([(0,), (2,)], [(0, 0)], [(0, 2, 0, 3), (0,)], [(0,), (0, 0)], [(0,)] * 7 + [(0, 2)]):
                check_error(self, NotSimple, None, act, TORUS, rounds, *rest)
            check_error(self, NotSimple, None, act, HOLES, [(0, 3)], *rest)
        for loop in NO_ROUNDS:
            check_error(self, BadRound, None, home, TORUS, [(0,)], loop)


class IsPartsTest(unittest.TestCase):
    def test_other_skins_and_images(self):
        chance = chance_of(363)
        slides = 0
        for bands in (1, 2, 2, 3, 4, 5, 6):
            for _ in range(8):
                skin = chance_skin(chance, bands)
                rounds = chance_apart(chance, skin, 3, 5)
                other = []
                for labels, part, images in parts(skin, rounds):
                    by_round = dict(zip([long_led(images, rim) for rim in rims(part)], labels))
                    if slides_of(part) and chance.randrange(2):
                        end, side = chance.choice(slides_of(part))
                        part = slid(part, end, side)[0]
                        back = slid(part, end, -side)[1]
                        images = [long_free(inner_led(images, word)) for word in back]
                        slides += 1
                    letters = chance_renaming(chance, part.bands)
                    images = [images[letters.index(letter)] for letter in range(len(letters))]
                    part = renamed(part, letters)
                    images = conjugated(images, chance_word(chance, skin, chance.randint(0, 3)))
                    labels = tuple(by_round[long_led(images, rim)] for rim in rims(part))
                    other.append((labels, part, tuple(images) if chance.randrange(2) else images))
                self.assertIs(is_parts(skin, rounds, other), True)
                self.assertIs(is_parts(skin=skin, rounds=rounds, thing=tuple(other)), True)
                if len(other) > 1:
                    self.assertIs(is_parts(skin, rounds, other[::-1]), False)
                    self.assertIs(is_parts(skin, rounds, other[:-1]), False)
                self.assertIs(is_parts(skin, rounds, other + other[:1]), False)
        self.assertGreater(slides, 20)

    def test_images_that_are_not_free(self):
        labels, part, images = parts(TORUS, [(0,)])[0]
        longer = [(0, 1) * 300 + word + (0, 1) * 300 for word in images]
        self.assertIs(is_parts(TORUS, [(0,)], [(labels, part, longer)]), True)
        self.assertIs(is_parts(TORUS, [(0,)], [(labels, part, [(2, 3) + word for word in images])]), False)

    def test_other_words(self):
        skin = Skin((0, 2, 1, 3, 4, 6, 5, 7))
        rim = (0, 3, 1, 2)
        self.assertEqual(own_crossings(skin, rim), 0)
        told = parts(skin, [rim])
        self.assertEqual([part.bands for _, part, _ in told], [2, 3])
        handles = [one for one in told if one[1].bands == 2]
        self.assertEqual(len(handles), 1)
        at = told.index(handles[0])
        labels, part, images = handles[0]
        for word in ((0,), (4,), (0, 4, 6)):
            told[at] = (labels, part, conjugated(images, word))
            self.assertIs(is_parts(skin, [rim], told), True)
        # With both bands exchanged the rim is led to the round turned about.
        told[at] = (labels, part, [images[letter] for letter in (2, 3, 0, 1)])
        self.assertIs(is_parts(skin, [rim], told), False)
        # The other handle is led right but for a twist of its own: another basis of the same words.
        told[at] = (labels, part, [long_free(inner_led(images, word)) for word in twist(part, (0,), 2)])
        self.assertIs(is_parts(skin, [rim], told), True)

    def test_words_of_another_part(self):
        # Both parts have the rounds of their rims alike, but the words of the one are no words of the other.
        rounds = [(0, 2)]
        one, other = parts(FOUR_RIMS, rounds)
        self.assertIs(is_parts(FOUR_RIMS, rounds, [one, other]), True)
        self.assertIs(is_parts(FOUR_RIMS, rounds, [(one[0], one[1], other[2]), other]), False)
        self.assertIs(is_parts(FOUR_RIMS, rounds, [(one[0], other[1], other[2]), other]), False)
        self.assertIs(is_parts(FOUR_RIMS, rounds, [(other[0], one[1], one[2]), other]), False)

    def test_images_of_the_whole_skin(self):
        labels = tuple(("rim", place) for place in range(4))
        for word, wanted in (((4,), True), ((0, 2, 4, 3, 1), True), ((0, 4, 1), False), ((4, 4), False), ((), False)):
            images = images_from([(0,), (2,), word])
            self.assertIs(is_parts(FOUR_RIMS, [], [(labels, FOUR_RIMS, images)]), wanted)
        # Unlike free words led to one: the handle's words all come of one, so its rim is lost.
        self.assertIs(is_parts(TORUS, [], [((("rim", 0),), TORUS, images_from([(0,), (0,)]))]), False)

    def test_any_value(self):
        skin, rounds = TORUS, [(0,), (0,)]
        told = parts(skin, rounds)
        first, second = told
        labels, part, images = first
        bad = ODD_VALUES + [
            [], [first], [first, second, second], [list(first), second], [first, None], [second, first],
            [(labels, part), second], [(labels, part, images, None), second], [(list(labels), part, images), second],
            [(labels, None, images), second], [(labels, part.row, images), second], [(labels, part, None), second],
            [(labels, part, [list(word) for word in images]), second], [(labels, part, images[:-1]), second],
            [(labels, part, images + images[:2]), second], [(labels, part, [()] * len(images)), second],
            [(labels[::-1], part, images), second], [(labels[:-1], part, images), second],
            [(labels + labels[:1], part, images), second], [(None, part, images), second],
            [(tuple(list(label) for label in labels), part, images), second],
            [(tuple((side, float(place)) for side, place in labels), part, images), second],
            [(tuple((side, bool(place)) for side, place in labels), part, images), second],
            [(labels, FOUR_RIMS, images), second], [(labels, part, [(9,)] * len(images)), second],
            [(labels, part, [(True,)] + images[1:]), second], {0: first, 1: second}, iter(told),
            [Counterfeit(), Counterfeit()], [(Counterfeit(), part, images), second],
            [(labels, Counterfeit(), images), second], [(labels, part, Counterfeit()), second],
            [(tuple((Counterfeit(), place) for _, place in labels), part, images), second],
            [(labels, part, [images[1], images[0]] + images[2:]), second],
            [(labels, part, [images[0] * 2, images[1] * 2] + images[2:]), second],
        ]
        self.assertIs(is_parts(skin, rounds, told), True)
        for thing in bad:
            self.assertIs(is_parts(skin, rounds, thing), False, thing)


class HomeTest(unittest.TestCase):
    def test_by_trying_all_rounds_of_the_parts(self):
        chance = chance_of(364)
        many = []
        for bands in (1, 2, 2, 3, 3, 4):
            for _ in range(8):
                skin = chance_skin(chance, bands)
                rounds = chance_apart(chance, skin, chance.randint(0, 3), 4)
                told = parts(skin, rounds)
                leads = []
                for place, (_, part, images) in enumerate(told):
                    for loop in all_rounds(part, 3):
                        leads.append((long_led(images, loop), place, loop))
                for loop in {other for other, _, _ in leads if len(other) <= 40}:
                    found = [(place, one) for other, place, one in leads if other == loop]
                    place, one = home(skin, rounds, loop)
                    self.assertEqual((place, long_led(told[place][2], one)), (min(found)[0], loop))
                    here = [short for at, short in found if at == place]
                    if one in here:
                        self.assertEqual(one, min(here))
                    sides_along = [
                        label for label in told[place][0]
                        if label[0] != "rim" and along(skin, loop, round_at(skin, rounds, label))
                    ]
                    self.assertLessEqual(len(here), 2 if told[place][1].bands > 1 and len(sides_along) == 2 else 1)
                    many.append(len(here))
        self.assertGreater(many.count(2), 5)

    def test_by_hand(self):
        told = home(skin=TORUS, rounds=[(0,)], loop=(0,))
        part = parts(TORUS, [(0,)])[0]
        both = [loop for loop in all_rounds(part[1], 1) if long_led(part[2], loop) == (0,)]
        self.assertEqual(told, (0, min(both)))
        self.assertEqual(len(both), 2)
        self.assertIs(home(TORUS, [(0,)], (2,)), None)
        self.assertIs(home(TORUS, [(0,)], (0, 2)), None)
        self.assertEqual(home(TORUS, [], (0, 2))[0], 0)

    def test_powers_rims_and_turned(self):
        chance = chance_of(365)
        for bands in (1, 2, 3, 4, 6):
            for _ in range(8):
                skin = chance_skin(chance, bands)
                rounds = chance_apart(chance, skin, 3, 4)
                told = parts(skin, rounds)
                for loop in rounds + rims(skin):
                    for times in (1, 2, 3):
                        for other in (gone(skin, loop, times), gone(skin, turned_about(skin, loop), times)):
                            if len(other) > 40:
                                continue
                            place, one = home(skin, rounds, other)
                            self.assertIs(is_round(told[place][1], one), True)
                            self.assertEqual(long_led(told[place][2], one), other)
                            for at in range(place):
                                edges = [round_at(skin, rounds, label) for label in told[at][0]]
                                self.assertFalse(any(along(skin, loop, edge) for edge in edges))

    def test_rounds_of_40_letters(self):
        told = home(TORUS, [(0,)], (0,) * 40)
        self.assertEqual(len(told[1]), 40)
        check_error(self, BadRound, None, home, TORUS, [(0,)], (0,) * 41)
        eight = [(0,)] * 8
        self.assertEqual(home(TORUS, eight, (0,) * 40)[0], 0)
        self.assertIs(home(TORUS, [(0,)] * 8, (0,) * 39 + (2,)), None)


class SidesTest(unittest.TestCase):
    def test_by_hand(self):
        self.assertEqual(sides(TORUS, (0,)), ("whole", (0, 3)))
        self.assertEqual(sides(skin=FOUR_RIMS, loop=(0, 2)), ("parted", (0, 3), (0, 3)))
        self.assertEqual(sides(RING, (0,)), ("parted", (0, 2), (0, 2)))
        # A rim has its skin to the left, and what is cut off along it to the right.
        self.assertEqual(sides(TORUS, (0, 3, 1, 2)), ("parted", (1, 1), (0, 2)))
        self.assertEqual(sides(TORUS, turned_about(TORUS, (0, 3, 1, 2))), ("parted", (0, 2), (1, 1)))

    def test_facts(self):
        chance = chance_of(366)
        for bands in (1, 2, 3, 4, 5, 6):
            for _ in range(15):
                skin = chance_skin(chance, bands)
                loop = chance_simple(chance, skin, 6)
                told = sides(skin, loop)
                handles = sum(one for one, _ in told[1:]) + (told[0] == "whole")
                self.assertEqual(handles, genus(skin))
                self.assertEqual(sum(many for _, many in told[1:]), len(rims(skin)) + 2)
                turned = sides(skin, turned_about(skin, loop))
                self.assertEqual(turned, told if told[0] == "whole" else (told[0], told[2], told[1]))

    def test_alike_exactly_if_led_on_four_rims(self):
        braids = [images_from([(0, 2, 1), (0,), (4,)]), images_from([(0,), (2, 4, 3), (2,)])]
        self.check_orbit(FOUR_RIMS, braids, (0, 2))

    def test_alike_exactly_if_led_on_one_handle_with_two_rims(self):
        skin = Skin((0, 2, 1, 3, 4, 5))
        loops = simple_rounds(skin, 2)
        steps = [twist(skin, loop, times) for loop in loops for times in (-1, 1)]
        steps = [images for images in steps if max(map(len, images)) <= 9]
        self.check_orbit(skin, steps, (0,))

    def check_orbit(self, skin, steps, start):
        """The rounds to which steps lead from start, and these turned about, are those that are alike to it."""
        self.assertTrue(all(is_change(skin, images) for images in steps))
        lot = {start}
        more = [start]
        while more:
            loop = more.pop()
            others = [led_round(skin, images, loop) for images in steps] + [turned_about(skin, loop)]
            for other in others:
                if len(other) <= 12 and other not in lot:
                    lot.add(other)
                    more.append(other)
        told = []
        for loop in simple_rounds(skin, 4):
            told.append(alike_rounds(skin, start, loop))
            self.assertIs(told[-1], loop in lot)
        self.assertTrue(told.count(True) > 5 and told.count(False) > 2)

    def test_changes_lead_to_alike_rounds(self):
        chance = chance_of(368)
        for bands in (1, 2, 2, 3, 4, 5, 6):
            for _ in range(8):
                skin = chance_skin(chance, bands)
                images = chance_change(chance, skin, 1)
                for _ in range(3):
                    loop = chance_simple(chance, skin, 4)
                    other = led_round(skin, images, loop)
                    if len(other) <= 40:
                        self.assertIs(alike_rounds(skin=skin, one=loop, other=other), True)
                        self.assertIs(alike_rounds(skin, other, turned_about(skin, loop)), True)

    def test_unlike(self):
        self.assertIs(alike_rounds(TORUS, (0,), (0, 3, 1, 2)), False)
        self.assertIs(alike_rounds(HOLES, (0, 2), (1,)), True)
        two = Skin((0, 2, 1, 3, 4, 5))
        self.assertIs(alike_rounds(two, (0,), (0, 3, 1, 2)), False)
        self.assertIs(alike_rounds(two, (4,), (5,)), True)
        handles = Skin((0, 2, 1, 3, 4, 6, 5, 7))
        self.assertIs(alike_rounds(handles, (0,), (4,)), True)
        self.assertIs(alike_rounds(handles, (0, 3, 1, 2), (4, 7, 5, 6)), True)
        self.assertIs(alike_rounds(handles, (0, 3, 1, 2), rims(handles)[0]), False)

    def test_one_handle(self):
        loops = [loop for loop in simple_rounds(TORUS, 5) if len(loop) != 4 or len(set(loop)) < 4]
        for loop in loops:
            is_rim = along(TORUS, loop, rims(TORUS)[0])
            self.assertIs(alike_rounds(TORUS, (0,), loop), not is_rim)

    def test_errors_in_sequence(self):
        for skin in NO_SKINS:
            check_error(self, BadSkin, ("part", None), sides, skin, None)
            check_error(self, BadSkin, ("part", None), alike_rounds, skin, None, None)
        for loop in NO_ROUNDS:
            check_error(self, BadRound, None, sides, TORUS, loop)
            check_error(self, BadRound, None, alike_rounds, TORUS, loop, None)
            check_error(self, BadRound, None, alike_rounds, TORUS, (0,), loop)
            check_error(self, NotSimple, None, alike_rounds, TORUS, (0, 0), loop)
        check_error(self, NotSimple, None, sides, HOLES, (0, 3))
        check_error(self, NotSimple, None, alike_rounds, HOLES, (0,), (0, 3))


class LedTest(unittest.TestCase):
    def test_helpers(self):
        self.assertEqual(inner_led([(0, 2), (3, 1), (2,), (3,)], (0, 3)), (0, 2, 3))
        images = [(0, 2), (3, 1), (2,), (3,)]
        self.assertEqual(long_led(images, (0, 3)), led(TORUS, images, (0, 3)))


if __name__ == "__main__":
    unittest.main()
