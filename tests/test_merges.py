"""Promise [69]: two people who went on from one live skin."""

import unittest

from tautrounds.errors import BadDeed, BadSkin, RoundError
from tautrounds.merges import clash, merged
from tests.helpers import (
    NO_SKINS, ODD_VALUES, TORUS, chance_deed, chance_deeds, chance_of, chance_skin, check_error, live_of,
)
from tests.test_orders import may_change_by_words, tried
from tests.test_steps import NO_DEEDS, THREE


def merged_by_words(skin, base, one, other):
    there, here = tried(skin, base + one + other), tried(skin, base + other + one)
    return None if there is None or here is None or there != here else base + one + other


def chance_branch(chance, skin, base, many):
    """Deeds that can be done behind base."""
    live = live_of(skin, base)
    deeds = []
    for _ in range(many):
        deed = chance_deed(chance, live)
        try:
            live.do([deed])
        except RoundError:
            continue
        deeds.append(deed)
    return deeds


class MergesTest(unittest.TestCase):
    def test_by_hand(self):
        base, one, other = [("draw", "x", (0,))], [("settle",)], [("twist", "x", 1)]
        self.assertEqual(merged(TORUS, base, one, other), base + one + other)
        self.assertIs(clash(TORUS, base, one, other), None)
        told = merged(skin=TORUS, base=(), one=[("rename", [2, 3, 0, 1])], other=tuple(base))
        self.assertIs(told, None)
        told = merged(skin=TORUS, base=tuple(base), one=[("rename", [2, 3, 0, 1])], other=())
        self.assertEqual(told, [("draw", "x", (0,)), ("rename", (2, 3, 0, 1))])
        self.assertEqual(clash(skin=TORUS, base=[], one=[("draw", "y", (2,))], other=base), (1, 1))
        self.assertEqual(merged(TORUS, [], [], []), [])

    def test_clash(self):
        # What is drawn in is settled only behind it.
        base = [("draw", "x", (0,)), ("draw", "y", (2,))]
        one = [("settle",), ("wipe", "x"), ("draw", "a", (0,))]
        other = [("settle",), ("draw", "b", (0, 2))]
        self.assertEqual(clash(TORUS, base, one, other), (1, 2))
        self.assertEqual(clash(TORUS, base, other, one), (2, 1))
        # A wipe may change places with a drawing in of another name; two drawings in may not.
        self.assertEqual(clash(TORUS, base, one[1:], other[1:]), (2, 1))
        self.assertEqual(clash(TORUS, base, [("wipe", "x")], [("twist", "y", 1), ("wipe", "x")]), (1, 2))

    def check(self, skin, base, one, other):
        told = merged(skin, base, one, other)
        self.assertEqual(told, merged_by_words(skin, base, one, other))
        back = merged(skin, base, other, one)
        self.assertEqual(told is None, back is None)
        found, turned = clash(skin, base, one, other), clash(skin, base, other, one)
        if told is not None:
            self.assertEqual((found, turned), (None, None))
            self.assertEqual(live_of(skin, told), live_of(skin, back))
            return None
        ranks = []
        for i in range(len(one) + 1):
            for j in range(len(other) + 1):
                if merged_by_words(skin, base, one[:i], other[:j]) is None:
                    ranks.append((i + j, i, j))
        self.assertEqual(found, min(ranks)[1:])
        i, j = found
        self.assertTrue(i >= 1 and j >= 1)
        self.assertIsNotNone(merged(skin, base, one[:i - 1], other[:j]))
        self.assertIsNotNone(merged(skin, base, one[:i], other[:j - 1]))
        self.assertEqual(sum(turned), sum(found))
        return found

    def test_by_words(self):
        chance = chance_of(400)
        told = []
        for bands in (1, 2, 2, 3, 4, 6):
            for _ in range(10):
                skin = chance_skin(chance, bands)
                base = chance_deeds(chance, skin, chance.randint(0, 3))
                one = chance_branch(chance, skin, base, chance.randint(0, 3))
                other = chance_branch(chance, skin, base, chance.randint(0, 3))
                told.append(self.check(skin, base, one, other))
        self.assertTrue(15 < told.count(None) < len(told) - 15)

    def test_merged_if_each_may_change_places_with_each(self):
        chance = chance_of(401)
        seen = 0
        for bands in (2, 2, 3, 4):
            for _ in range(40):
                skin = chance_skin(chance, bands)
                base = chance_deeds(chance, skin, 3)
                one, other = chance_branch(chance, skin, base, 2), chance_branch(chance, skin, base, 2)
                if self.all_may_change(skin, base, one, other):
                    seen += bool(one) and bool(other)
                    self.assertEqual(merged(skin, base, one, other), base + one + other)
        self.assertGreater(seen, 10)

    def all_may_change(self, skin, base, one, other):
        """Whether one is led to stand behind other by exchanges, each of which may be done."""
        deeds = base + one + other
        if tried(skin, deeds) is None:
            return False
        for done, deed in enumerate(other):
            for at in range(len(base) + len(one) + done - 1, len(base) + done - 1, -1):
                if not may_change_by_words(skin, deeds, at):
                    return False
                deeds = deeds[:at] + [deeds[at + 1], deeds[at]] + deeds[at + 2:]
        return True

    def test_two_that_draw_in_are_never_merged(self):
        chance = chance_of(402)
        for bands in (1, 2, 3, 6):
            for _ in range(5):
                skin = chance_skin(chance, bands)
                base = [("draw", "x", (0,))]
                for second in ("y", "z"):
                    one = chance_branch(chance, skin, base, 1) + [("draw", "yy", (0,))]
                    other = [("draw", second + "y", (1,))] + [("settle",)]
                    self.assertIs(merged(skin, base, one, other), None)
                    self.assertIsNotNone(clash(skin, base, one, other))

    def test_twelve_deeds_and_one_more(self):
        twelve = [("settle",)] * 12
        self.assertEqual(merged(TORUS, twelve, twelve, twelve), twelve * 3)
        self.assertIs(clash(TORUS, twelve, twelve, twelve), None)
        for place in range(3):
            lists = [twelve, twelve, twelve]
            lists[place] = twelve + [("settle",)]
            check_error(self, BadDeed, None, merged, TORUS, *lists)
            check_error(self, BadDeed, None, clash, TORUS, *lists)

    def test_told_as_steps_tells(self):
        base, one, other = [("rename", [0, 1, 2, 3])], [("change", [(0,), (1,), (2,), (3,)])], [("settle",)]
        told = merged(TORUS, base, one, other)
        self.assertEqual(told, [("rename", (0, 1, 2, 3)), ("change", ((0,), (1,), (2,), (3,))), ("settle",)])
        self.assertEqual((type(told), type(told[0][1]), type(told[1][1])), (list, tuple, tuple))
        base[0][1].clear()
        one[0][1].clear()
        self.assertEqual(told[0], ("rename", (0, 1, 2, 3)))
        told.clear()
        self.assertEqual(merged(TORUS, [], [], other), other)

    def test_errors_in_sequence(self):
        for skin in NO_SKINS:
            check_error(self, BadSkin, ("part", None), merged, skin, None, None, None)
            check_error(self, BadSkin, ("part", None), clash, skin, None, None, None)
        bad = ODD_VALUES + [[deed] for deed in NO_DEEDS] + [
            iter(THREE), [("wipe", "y")], [("draw", "x", (0,))] * 2, [("draw", None, None)], [("slide", 9, 1)],
        ]
        for act in (merged, clash):
            for deeds in bad:
                check_error(self, BadDeed, None, act, TORUS, deeds, [], [])
                check_error(self, BadDeed, None, act, TORUS, [], deeds, [])
                check_error(self, BadDeed, None, act, TORUS, [], [], deeds)
            # Either list must be done behind base alone.
            check_error(self, BadDeed, None, act, TORUS, [], [("draw", "x", (0,))], [("wipe", "x")])


if __name__ == "__main__":
    unittest.main()
