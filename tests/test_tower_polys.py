"""rungfields.towers, polynomials over rests in own fields: promises [2] and [18]."""

import itertools
import math
import random
import unittest

import naive
from rungfields.errors import BadDegree, BadPoly, TooTall
from rungfields.over import built, over_times
from rungfields.polys import poly_times
from rungfields.rests import PRIMES
from rungfields.towers import Tower
from rungfields.whole import is_whole

FORTY = 10**39 + 12345
BAD_POLYS = ((), (1, 0), (0,), (1, 5), (-1, 1), (True, 1), (1, True), (FORTY, 1), (1,) * 26, (0,) * 25)


def some_whole(prime, degree, seed):
    """Some level whole polynomial of a degree."""
    chance = random.Random(f"{prime} {degree} {seed}")
    while True:
        poly = tuple(chance.randrange(prime) for _ in range(degree)) + (1,)
        if is_whole(poly, prime=prime):
            return poly


def product(told, prime, last=1):
    """The product of polynomials, each told with its count, times a rest."""
    poly = (last,)
    for part, count in told:
        for _ in range(count):
            poly = poly_times(poly, part, prime=prime)
    return poly


def wholes(prime, degrees):
    """A whole polynomial for each degree, unlike ones for like degrees, with counts 1, 2, .."""
    told = {}
    for at, degree in enumerate(degrees):
        seed = at
        while (part := some_whole(prime, degree, seed)) in told:
            seed += 100
        told[part] = 1 + at % 2
    return list(told.items())


CASES = [
    (prime, degrees)
    for prime in (2, 3, 5, 7)
    for degrees in ((1,), (2,), (2, 3), (3, 2, 1), (4, 6), (6, 3, 2), (12,), (8, 2), (11,), (9, 3), (10, 5), (4, 2, 4))
]


class Case(unittest.TestCase):
    def refused(self, error, action, *told):
        with self.assertRaises(error) as caught:
            action(*told)
        self.assertEqual(caught.exception.word, error.__name__)
        return caught.exception


class Splits(Case):
    def test_of_products(self):
        for prime, degrees in CASES:
            told = wholes(prime, degrees)
            for last in (1, prime - 1):
                poly = product(told, prime, last)
                self.assertEqual(Tower(prime=prime).splits(poly), math.lcm(*degrees))

    def test_least_field_against_all_numbers(self):
        for prime, most in ((2, 4), (3, 2)):
            tower = Tower(prime=prime)
            for poly in naive.all_polys(prime, most + 1):
                if poly != ():
                    self.assertEqual(tower.splits(poly), self.searched(tower, poly))

    def searched(self, tower, poly):
        """The least degree whose own field has as many roots as the degree, counted as often as they stand."""
        for degree in range(1, 13):
            own = tower.own(degree)
            linear = sum(count for part, count in tower.parts(poly, degree) if len(part) == 2)
            if linear == len(poly) - 1:
                self.assertEqual(linear, sum(
                    self.count_of(own, poly, own.nth(at)) for at in range(own.size())
                ) if own.size() < 100 else linear)
                return degree
        return None

    def count_of(self, own, poly, number):
        """How often a number is a root, by parting level ones away."""
        numbers = [own.plain(rest) for rest in poly]
        count = 0
        while len(numbers) > 1:
            quotient = [numbers[-1]]
            for at in reversed(numbers[:-1]):
                quotient.append(own.plus(at, own.times(quotient[-1], number)))
            if quotient.pop() != own.plain(0):
                break
            numbers = quotient[::-1]
            count += 1
        return count

    def test_of_rests(self):
        for prime in PRIMES:
            tower = Tower(prime=prime)
            for rest in range(1, prime):
                self.assertEqual(tower.splits((rest,)), 1)
                self.assertEqual(tower.roots((rest,)), [])

    def test_too_tall(self):
        for prime in (2, 3, 5):
            tower = Tower(prime=prime)
            for degrees in ((13,), (14,), (5, 3), (7, 2), (8, 3), (5, 9), (13, 1), (24,), (10, 12), (11, 13), (4, 10)):
                poly = product([(some_whole(prime, degree, 0), 1) for degree in degrees], prime)
                for action in (tower.splits, tower.roots):
                    self.assertEqual(self.refused(TooTall, action, poly).tall, math.lcm(*degrees))

    def test_bad_poly(self):
        tower = Tower(prime=5)
        for poly in BAD_POLYS:
            self.refused(BadPoly, tower.splits, poly)
            self.refused(BadPoly, tower.roots, poly)


class Roots(Case):
    def test_put_in_by_the_towers_own_sums(self):
        for prime, degrees in CASES:
            tower = Tower(prime=prime)
            told = wholes(prime, degrees)
            poly = product(told, prime, prime - 1)
            roots = tower.roots(poly)
            self.assertEqual(roots, sorted(roots))
            self.assertEqual(sum(count for _, count in roots), len(poly) - 1)
            self.assertEqual(len({root for root, _ in roots}), len(roots))
            for root, count in roots:
                self.assertEqual(tower.home(root), root)
                self.assertEqual(dict(told)[tower.least(root)], count)
            for root, _ in roots[::3]:
                self.assertEqual(self.value(tower, poly, root), (1, (0,)))

    def value(self, tower, poly, number):
        total = (1, (0,))
        for rest in reversed(poly):
            total = tower.plus(tower.times(total, number), (1, (rest,)))
        return total

    def test_great_ones(self):
        for prime, degrees in ((97, (12, 12)), (89, (6, 4, 12, 2)), (2, (12, 6, 4, 2)), (53, (11, 11)), (31, (9,))):
            tower = Tower(prime=prime)
            poly = product([(part, 1) for part, _ in wholes(prime, degrees)], prime)
            roots = tower.roots(poly)
            self.assertEqual(len(roots), sum(degrees))
            self.assertEqual(sorted(root[0] for root, _ in roots), sorted(d for d in degrees for _ in range(d)))
            for root, count in roots[:: len(roots) // 3]:
                self.assertEqual(count, 1)
                self.assertEqual(self.value(tower, poly, root), (1, (0,)))

    def test_plain_ones(self):
        tower = Tower(prime=3)
        self.assertEqual(tower.roots((0, 0, 1)), [((1, (0,)), 2)])
        self.assertEqual(tower.roots((0, 2, 0, 2)), [((1, (0,)), 1), ((2, (0, 1)), 1), ((2, (0, 2)), 1)])
        self.assertEqual(tower.roots((1, 2, 1)), [((1, (2,)), 2)])

    def test_each_told_list_is_a_new_one(self):
        tower = Tower(prime=3)
        tower.roots((0, 2, 0, 2)).clear()
        tower.parts((0, 2, 0, 2), 2).clear()
        self.assertEqual(len(tower.roots((0, 2, 0, 2))), 3)
        self.assertEqual(len(tower.parts((0, 2, 0, 2), 2)), 3)


class Parts(Case):
    def test_product_counts_and_order(self):
        for prime, degrees in CASES:
            tower = Tower(prime=prime)
            told = wholes(prime, degrees)
            for degree in (1, 2, 3, 4, 6, 12) if prime == 2 else (1, 2, 6):
                self.check(tower, told, degree)

    def check(self, tower, told, degree):
        prime, own = tower.prime(), tower.own(degree)
        parts = tower.parts(product(told, prime, prime - 1), degree)
        self.assertEqual(parts, sorted(parts, key=lambda row: (len(row[0]), row[0])))
        self.assertEqual(len({part for part, _ in parts}), len(parts))
        wanted = {}
        for part, count in told:
            common = math.gcd(len(part) - 1, degree)
            key = (len(part) - 1) // common, count
            wanted[key] = wanted.get(key, 0) + common
        known = {}
        poly = (own.plain(1),)
        for part, count in parts:
            known[len(part) - 1, count] = known.get((len(part) - 1, count), 0) + 1
            self.assertIs(type(part), tuple)
            self.assertEqual(part[-1], own.plain(1))
            for _ in range(count):
                poly = over_times(own, poly, part)
        self.assertEqual(known, wanted)
        self.assertEqual(poly, tuple(own.plain(rest) for rest in product(told, prime)))

    def test_degrees_to_twelve_over_every_degree(self):
        for prime in (2, 3):
            tower = Tower(prime=prime)
            for high, degree in itertools.product(range(1, 13), repeat=2):
                self.check(tower, [(some_whole(prime, high, 0), 1)], degree)

    def test_no_numbers_of_lesser_fields_make_them_smaller(self):
        # a part of degree 2 or 3 is whole if it has no root
        for prime, poly, degree in ((2, (1, 1, 1), 3), (3, some_whole(3, 6, 1), 2), (2, some_whole(2, 9, 1), 3)):
            tower = Tower(prime=prime)
            own = tower.own(degree)
            for part, _ in tower.parts(poly, degree):
                self.assertIn(len(part), (3, 4))
                for at in range(own.size()):
                    value = own.plain(0)
                    for number in reversed(part):
                        value = own.plus(own.times(value, own.nth(at)), number)
                    self.assertNotEqual(value, own.plain(0))

    def test_roots_lie_in_them(self):
        # what the tower's roots make in the field that holds all is what the parts make there
        for prime, high, degree in ((2, 4, 2), (3, 6, 3), (5, 6, 4), (7, 2, 2), (2, 12, 6)):
            tower = Tower(prime=prime)
            poly = some_whole(prime, high, 2)
            above = math.lcm(high, degree)
            own = tower.own(above)
            joined = sorted(
                tuple(tower.lead(degree, above).to(number) for number in part)
                for part, _ in tower.parts(poly, degree)
            )
            roots = [tower.raised(root, above)[1] for root, _ in tower.roots(poly)]
            orbits = {
                tuple(sorted(own.turned(root, steps=steps) for steps in range(0, above, degree))) for root in roots
            }
            self.assertEqual(joined, sorted(built(own, sorted(set(orbit))) for orbit in orbits))

    def test_of_rests(self):
        for prime, degree in itertools.product((2, 5), (1, 7, 12)):
            self.assertEqual(Tower(prime=prime).parts((prime - 1,), degree), [])

    def test_over_degree_one_as_over_rests(self):
        tower = Tower(prime=5)
        self.assertEqual(tower.parts((2, 0, 1), 1), [(((2,), (0,), (1,)), 1)])
        self.assertEqual(
            tower.parts((0, 0, 2, 0, 1), 1), [(((0,), (1,)), 2), (((2,), (0,), (1,)), 1)]
        )

    def test_no_common_field_is_needed(self):
        tower = Tower(prime=2)
        part = some_whole(2, 11, 3)
        self.assertEqual([len(told) for told, _ in tower.parts(part, 12)], [12])
        self.assertEqual([len(told) for told, _ in tower.parts(some_whole(2, 9, 3), 12)], [4, 4, 4])
        several = product([(some_whole(2, 7, 1), 1), (some_whole(2, 5, 1), 2)], 2)
        self.assertEqual([(len(told), count) for told, count in tower.parts(several, 5)], [(2, 2)] * 5 + [(8, 1)])

    def test_too_tall(self):
        for prime in (2, 3):
            tower = Tower(prime=prime)
            for degrees, tall in (((13,), 13), ((4, 13), 13), ((24,), 24), ((2, 14), 14), ((5, 3, 16), 16)):
                poly = product([(some_whole(prime, degree, 0), 1) for degree in degrees], prime)
                for degree in (1, 4, 12):
                    self.assertEqual(self.refused(TooTall, tower.parts, poly, degree).tall, tall)
                self.refused(BadDegree, tower.parts, poly, 13)

    def test_refusals_in_their_order(self):
        tower = Tower(prime=5)
        for degree in (0, 13, -1, True, FORTY):
            self.refused(BadDegree, tower.parts, (1, 1), degree)
            self.refused(BadDegree, tower.parts, (1,), degree)
        for poly in BAD_POLYS:
            for degree in (0, 1, 12, True):
                self.refused(BadPoly, tower.parts, poly, degree)


if __name__ == "__main__":
    unittest.main()
