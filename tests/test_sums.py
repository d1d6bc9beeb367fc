"""Promises [3], [40]: sums."""

import unittest

from tautrounds.errors import BadNumber, BadSkin, BadSum
from tautrounds.sums import added, is_sum, weight
from tests.helpers import (
    HOLES, NO_NUMBERS, NO_SKINS, ODD_VALUES, RING, TORUS, Counterfeit, all_rounds, chance_of, chance_skin, chance_sum,
    check_ascending, check_error,
)

MANY = all_rounds(TORUS, 5)
MOST = 10 ** 9
NO_SUMS = [thing for thing in ODD_VALUES if thing != {}] + [
    [((0,), 1)], {(0,): 0}, {(0,): 1, (2,): 0}, {(0,): True}, {(0,): 1.0}, {(0,): "1"}, {(0,): None}, {(1, 0): 1},
    {(): 1}, {(2, 0): 1}, {(True,): 1}, {(4,): 1}, {"(0,)": 1}, {0: 1}, {None: 1}, {(0,): MOST + 1},
    {(0,): -MOST - 1}, {(0,) * 41: 1}, {loop: 1 for loop in MANY[:61]}, {(0,): Counterfeit()}, {Counterfeit(): 1},
    {((0,),): 1}, {(0.0,): 1}, {b"\0": 1}, {frozenset([0]): 1},
]


def check_sum_errors(case, act, *rest):
    """That act, of a skin and a sum, tells BadSkin and BadSum, ahead of all that comes behind."""
    for skin in NO_SKINS:
        check_error(case, BadSkin, ("part", None), act, skin, None, *rest)
    for thing in NO_SUMS:
        check_error(case, BadSum, None, act, TORUS, thing, *rest)


class SumsTest(unittest.TestCase):
    def test_is_sum(self):
        good = [
            {}, {(0,): 1}, {(0,): -1, (2,): 5}, {(2,): 1, (0,): 1}, {(0,): MOST, (2,): -MOST}, {(0,) * 40: 1},
            {loop: 1 for loop in MANY[:60]},
        ]
        for thing in good:
            self.assertIs(is_sum(TORUS, thing), True)
            self.assertIs(is_sum(skin=TORUS, thing=thing), True)
        for thing in NO_SUMS:
            self.assertIs(is_sum(TORUS, thing), False)
        self.assertIs(is_sum(RING, {(2,): 1}), False)

    def test_added(self):
        one, other = {(2,): 1, (0,): 4}, {(0,): 2, (3,): 7}
        self.assertEqual(added(TORUS, one, other, 3), {(0,): 10, (2,): 1, (3,): 21})
        self.assertEqual(list(added(TORUS, one, other, -2).items()), [((2,), 1), ((3,), -14)])
        self.assertEqual(list(added(TORUS, one, other, 0).items()), [((0,), 4), ((2,), 1)])
        self.assertEqual(added(skin=TORUS, one={}, other={}, times=5), {})
        self.assertEqual((one, other), ({(2,): 1, (0,): 4}, {(0,): 2, (3,): 7}))
        told = added(TORUS, one, {}, 1)
        told[3,] = 5
        self.assertEqual(one, {(2,): 1, (0,): 4})

    def test_greater_than_what_is_handed_in(self):
        told = added(TORUS, {(0,): MOST}, {(0,): MOST}, MOST)
        self.assertEqual(told, {(0,): MOST + MOST * MOST})
        self.assertIs(is_sum(TORUS, told), False)
        ones = {loop: 1 for loop in MANY[:60]}
        others = {loop: 1 for loop in MANY[30:90]}
        told = added(TORUS, ones, others, -1)
        self.assertEqual(len(told), 60)
        self.assertEqual(len(added(TORUS, ones, others, 1)), 90)
        check_ascending(self, added(TORUS, ones, others, 1))

    def test_by_chance(self):
        chance = chance_of(310)
        for _ in range(60):
            skin = chance_skin(chance, chance.randint(1, 6))
            one, other = chance_sum(chance, skin, 6, 2), chance_sum(chance, skin, 6, 2)
            times = chance.randint(-3, 3)
            told = added(skin, one, other, times)
            check_ascending(self, told)
            for loop in list(one) + list(other):
                number = one.get(loop, 0) + times * other.get(loop, 0)
                self.assertEqual(told.get(loop), number if number else None)
            self.assertEqual(weight(skin, told), sum(map(abs, told.values())))

    def test_weight(self):
        self.assertEqual(weight(TORUS, {}), 0)
        self.assertEqual(weight(skin=HOLES, some={(0,): -3, (0, 2): 4}), 7)

    def test_errors_in_sequence(self):
        for skin in NO_SKINS:
            check_error(self, BadSkin, ("part", None), is_sum, skin, {})
        check_sum_errors(self, weight)
        check_sum_errors(self, added, None, None)
        for thing in NO_SUMS:
            check_error(self, BadSum, None, added, TORUS, {}, thing, None)
        for times in NO_NUMBERS + [MOST + 1, -MOST - 1]:
            check_error(self, BadNumber, ("part", "times"), added, TORUS, {}, {}, times)
        for times in (MOST, -MOST):
            self.assertEqual(added(TORUS, {}, {(0,): 1}, times), {(0,): times})


if __name__ == "__main__":
    unittest.main()
