"""Promise k62, point [81]: orbits of pairings of very many numbers."""

import copy
import unittest
from math import gcd

from tautrounds.errors import BadNumber
from tautrounds.orbits import orbit_kinds, orbit_many, orbit_sum, same_orbit
from tests.helpers import NO_NUMBERS, ODD_VALUES, chance_of, check_error

MOST = 10 ** 62


def slow_orbits(size, pairings):
    """The orbits as lists, by going through all numbers."""
    names = list(range(size))
    for start, other, length, way in pairings:
        for step in range(length):
            one, two = names[start + step], names[other + (step if way == 1 else length - 1 - step)]
            if one != two:
                names = [one if name == two else name for name in names]
    return [[number for number in range(size) if names[number] == name] for name in sorted(set(names))]


def chance_pairings(chance, size, many):
    told = []
    for _ in range(many):
        length = chance.randint(1, max(1, size // chance.choice([1, 2, 3, 5])))
        told.append((chance.randint(0, size - length), chance.randint(0, size - length), length, chance.choice([1, -1])))
    return told


def chance_weights(chance, size, parts, most=5):
    rows = []
    while size > 0:
        length = chance.randint(1, size)
        rows.append((length, tuple(chance.randint(-most, most) for _ in range(parts))))
        size -= length
    return rows


class SmallTest(unittest.TestCase):
    def test_by_hand(self):
        self.assertEqual((orbit_many(0, []), orbit_kinds(0, [], [])), (0, []))
        self.assertEqual(orbit_many(5, [(0, 0, 5, -1)]), 3)
        self.assertEqual(orbit_kinds(5, [(0, 0, 5, -1)], [(5, (1,))]), [((1,), 1), ((2,), 2)])
        both = [(0, 6, 4, 1), (0, 4, 6, 1)]
        self.assertEqual(orbit_many(10, both), 2)
        self.assertTrue(same_orbit(10, both, 0, 8) and not same_orbit(10, both, 0, 7))
        self.assertEqual(orbit_many(10, both[:1]), 6)

    def test_counted_one_by_one(self):
        chance = chance_of(1)
        for _ in range(400):
            size = chance.randint(1, chance.choice([3, 8, 30]))
            pairings = chance_pairings(chance, size, chance.randint(0, 6))
            weights = chance_weights(chance, size, chance.choice([1, 2, 13]))
            all_weights = [numbers for length, numbers in weights for _ in range(length)]
            orbits = slow_orbits(size, pairings)
            sums = [tuple(map(sum, zip(*[all_weights[number] for number in orbit]))) for orbit in orbits]
            self.assertEqual(orbit_many(size, pairings), len(orbits))
            wanted = [(one, sums.count(one)) for one in sorted(set(sums))]
            self.assertEqual(orbit_kinds(size, tuple(pairings), tuple(weights)), wanted)
            number, other = chance.randrange(size), chance.randrange(size)
            mine = [place for place, orbit in enumerate(orbits) if number in orbit][0]
            self.assertEqual(orbit_sum(size, pairings, weights, number), sums[mine])
            self.assertIs(same_orbit(size, pairings, number, other), other in orbits[mine])

    def test_kinds_are_few(self):
        chance = chance_of(2)
        for _ in range(200):
            size = chance.randint(1, 60)
            pairings = chance_pairings(chance, size, chance.randint(0, 3))
            weights = chance_weights(chance, size, 1, 50)
            edges = {edge for start, other, length, _ in pairings
                     for edge in (start, start + length, other, other + length)}
            edges |= {sum(length for length, _ in weights[:at]) for at in range(len(weights))}
            inner = [edge for edge in edges if 1 <= edge <= size - 1]
            self.assertLessEqual(len(orbit_kinds(size, pairings, weights)), 2 * len(inner) + 2)


class GreatTest(unittest.TestCase):
    """Sizes up to 10 ** 62, of which nothing can be counted one by one."""

    def test_two_steps(self):
        chance = chance_of(3)
        for power in list(range(0, 62, 4)) + [61]:
            for _ in range(6):
                unit = chance.randint(1, 10 ** chance.randint(0, power))
                one, other = unit * chance.randint(0, 9), unit * chance.randint(1, 10 ** 9)
                one, other = (one, other) if chance.randrange(2) else (other, one)
                size = min(MOST, one + other + chance.randint(0, 10 ** 61))
                if one + other > size:
                    continue
                pairings = [(0, step, size - step, 1) for step in (one, other)]
                pairings = [pairing for pairing in pairings if pairing[2] > 0]
                self.assertEqual(orbit_many(size, pairings), gcd(one, other))
                many = gcd(one, other)
                told = orbit_kinds(size, pairings, [(size, (1, -2))])
                self.assertEqual(sum(count for _, count in told), many)
                self.assertEqual({sums[0] for sums, _ in told} - {size // many, size // many + 1}, set())
                number = chance.randrange(size)
                self.assertIs(same_orbit(size, pairings, number, number % many), True)
                self.assertIs(same_orbit(size, pairings, 0, number), number % many == 0)

    def test_neighbours_in_fibonacci(self):
        low, high = 1, 1
        while low + 2 * high <= MOST:
            low, high = high, low + high
        pairings = [(0, low, high, 1), (0, high, low, 1)]
        self.assertEqual(orbit_many(low + high, pairings), 1)
        self.assertEqual(orbit_many(low + high, pairings[:1]), low)
        self.assertEqual(orbit_sum(low + high, pairings, [(low, (1, 0)), (high, (0, 1))], 17), (low, high))

    def test_turned_about(self):
        for size in (10 ** 62, 10 ** 62 - 1, 10 ** 45 + 7):
            pairings = [(0, 0, size, -1)]
            half = size // 2
            wanted = [((1,), 1), ((2,), half)] if size % 2 else [((2,), half)]
            self.assertEqual(orbit_kinds(size, pairings, [(size, (1,))]), wanted)
            self.assertTrue(same_orbit(size, pairings, 5, size - 6))
            self.assertFalse(same_orbit(size, pairings, 5, size - 5))
            self.assertEqual(orbit_many(size, pairings + [(0, 0, size - 1, -1)]), 1)

    def test_times_as_great(self):
        """Numbers put apart into as many copies have as many orbits of each kind, as often."""
        chance = chance_of(4)
        for _ in range(60):
            size, times = chance.randint(1, 40), chance.choice([7, 10 ** 30 + 3, 10 ** 60])
            pairings = chance_pairings(chance, size, chance.randint(0, 5))
            weights = chance_weights(chance, size, 3)
            wide = [(start * times, other * times, length * times, way) for start, other, length, way in pairings]
            rows = [(length * times, numbers) for length, numbers in weights]
            small, great = orbit_kinds(size, pairings, weights), orbit_kinds(size * times, wide, rows)
            if all(way == 1 for *_, way in pairings):
                self.assertEqual(great, [(sums, many * times) for sums, many in small])
            total = [sum(many * sums[part] for sums, many in great) for part in range(3)]
            self.assertEqual(total, [times * sum(many * sums[part] for sums, many in small) for part in range(3)])

    def test_bounds_together(self):
        """Sixty pairings, four hundred rows of twenty weights as great as can be, at the greatest size."""
        chance = chance_of(5)
        for _ in range(3):
            cuts = sorted({chance.randrange(1, MOST) for _ in range(59)})
            lengths = [end - start for start, end in zip([0] + cuts, cuts + [MOST])]
            order = list(range(len(lengths)))
            chance.shuffle(order)
            pairings, at = [], 0
            for place in order:
                start = sum(lengths[:place])
                pairings.append((start, at, lengths[place], chance.choice([1, 1, 1, -1])))
                at += lengths[place]
            edges = sorted({chance.randrange(1, MOST) for _ in range(399)})
            weights = [(end - start, tuple(chance.choice([-1, 1]) * 10 ** 9 for _ in range(20)))
                       for start, end in zip([0] + edges, edges + [MOST])]
            told = orbit_kinds(MOST, pairings, weights)
            for part in range(20):
                total = sum(length * numbers[part] for length, numbers in weights)
                self.assertEqual(sum(many * sums[part] for sums, many in told), total)
            number = chance.randrange(MOST)
            mine = orbit_sum(MOST, pairings, weights, number)
            self.assertIn(mine, [sums for sums, _ in told])
            start, other, length, way = pairings[7]
            step = chance.randrange(length)
            there = other + (step if way == 1 else length - 1 - step)
            self.assertTrue(same_orbit(MOST, pairings, start + step, there))


class RefusedTest(unittest.TestCase):
    def test_size(self):
        for size in NO_NUMBERS + ODD_VALUES + [-1, MOST + 1]:
            for act in (orbit_many, orbit_kinds, orbit_sum, same_orbit):
                rest = {orbit_many: [], orbit_kinds: [None], orbit_sum: [None, None], same_orbit: [None, None]}[act]
                if type(size) is not int or not 0 <= size <= MOST:
                    check_error(self, BadNumber, ("part", "size"), act, size, None, *rest)

    def test_pairings(self):
        good = (0, 1, 2, 1)
        bad = [None, "no", {good}, [list(good)], [(0, 1, 2)], [(0, 1, 2, 1, 1)], [(0, 1, 0, 1)], [(0, 1, -1, 1)],
               [(0, 1, 2, 0)], [(0, 1, 2, True)], [(False, 1, 2, 1)], [(0, 1, 2, 2)], [(-1, 1, 2, 1)], [(0, 4, 2, 1)],
               [(4, 0, 2, 1)], [(0, 1, 2, 1.0)], [good] * 61, [good, None]]
        for pairings in bad:
            check_error(self, BadNumber, ("part", "pairings"), orbit_many, 5, pairings)
            check_error(self, BadNumber, ("part", "pairings"), orbit_kinds, 5, pairings, None)
            check_error(self, BadNumber, ("part", "pairings"), orbit_sum, 5, pairings, None, None)
            check_error(self, BadNumber, ("part", "pairings"), same_orbit, 5, pairings, None, None)
        self.assertEqual(orbit_many(5, [good] * 60), 3)
        self.assertEqual(orbit_many(5, ((0, 3, 2, -1),)), 3)

    def test_weights(self):
        bad = [None, "no", {}, [], [(5, [1])], [[5, (1,)]], [(5, ())], [(4, (1,))], [(6, (1,))], [(0, (1,)), (5, (1,))],
               [(2, (1,)), (3, (1, 2))], [(5, (1,) * 21)], [(5, (10 ** 9 + 1,))], [(5, (True,))], [(True, (1,))],
               [(5, (1,), 1)], [(1, (1,))] * 401]
        for weights in bad:
            check_error(self, BadNumber, ("part", "weights"), orbit_kinds, 5, [], weights)
            check_error(self, BadNumber, ("part", "weights"), orbit_sum, 5, [], weights, None)
        check_error(self, BadNumber, ("part", "weights"), orbit_kinds, 401, [], [(1, (1,))] * 401)
        self.assertEqual(orbit_kinds(400, [], [(1, (10 ** 9,) * 20)] * 400), [((10 ** 9,) * 20, 400)])
        check_error(self, BadNumber, ("part", "weights"), orbit_kinds, 0, [], [(1, (1,))])

    def test_numbers(self):
        for number in NO_NUMBERS + [-1, 5]:
            if type(number) is not int or not 0 <= number < 5:
                check_error(self, BadNumber, ("part", "number"), orbit_sum, 5, [], [(5, (1,))], number)
                check_error(self, BadNumber, ("part", "one"), same_orbit, 5, [], number, None)
                check_error(self, BadNumber, ("part", "other"), same_orbit, 5, [], 4, number)
        check_error(self, BadNumber, ("part", "number"), orbit_sum, 0, [], [], 0)
        check_error(self, BadNumber, ("part", "one"), same_orbit, 0, [], 0, 0)

    def test_what_is_handed_in_stays_and_what_is_told_is_new(self):
        pairings, weights = [(0, 6, 4, 1), (0, 4, 6, 1)], [(10, (1, 2))]
        before = copy.deepcopy((pairings, weights))
        told = orbit_kinds(size=10, pairings=pairings, weights=weights)
        told.append(None)
        self.assertEqual(orbit_kinds(10, pairings, weights), [((5, 10), 2)])
        self.assertEqual(orbit_sum(size=10, pairings=pairings, weights=weights, number=3), (5, 10))
        self.assertEqual(orbit_many(size=10, pairings=pairings), 2)
        self.assertIs(same_orbit(size=10, pairings=pairings, one=3, other=5), True)
        self.assertEqual((pairings, weights), before)


if __name__ == "__main__":
    unittest.main()
