"""rungfields.roots: promises [2], [9] and [14]."""

import inspect
import itertools
import random
import unittest

import naive
from rungfields import roots as roots_file
from rungfields.errors import BadPoly, NotWhole, NotWithin
from rungfields.fields import Field
from rungfields.over import built, over_value
from rungfields.parting import parts
from rungfields.rests import PRIMES
from rungfields.roots import root, roots
from rungfields.whole import least_whole

FORTY = 10**39 + 12345
RULES = [
    (2, (0, 1)), (2, (1, 1)), (2, (1, 1, 1)), (2, (1, 1, 0, 1)), (2, (1, 1, 1, 1, 1)), (2, least_whole(6)),
    (3, (2, 1)), (3, (2, 1, 1)), (3, (1, 2, 0, 1)), (3, least_whole(4, prime=3)), (5, (2, 0, 1)), (7, (1, 0, 1)),
    (13, (5, 1)),
]
SMALL = [Field(rule, prime=prime) for prime, rule in RULES]
WHOLES = {prime: naive.sieve(prime, most) for prime, most in ((2, 6), (3, 4), (5, 3), (7, 2), (13, 2))}


def lifted(field, poly):
    """A polynomial over rests as one over a field."""
    return tuple(field.plain(rest) for rest in poly)


class Roots(unittest.TestCase):
    def check(self, field, poly, wanted):
        told = roots(field, poly)
        self.assertIs(type(told), list)
        self.assertTrue(all(type(pair) is tuple and type(pair[0]) is tuple for pair in told))
        self.assertEqual(told, wanted)

    def count(self, field, poly, number):
        """How often a number is a root, by parting."""
        known = naive.Numbers(field.rule(), field.prime())
        over = list(lifted(field, poly))
        count = 0
        while True:
            # going down from the last number parts by x less the number; what is left is the value
            told = [known.nought]
            for own in reversed(over):
                told.append(known.plus(known.times(told[-1], number), own))
            if told[-1] != known.nought or len(over) == 1:
                return count
            over = told[1:-1][::-1]
            count += 1

    def test_against_all_numbers(self):
        for field in SMALL:
            prime = field.prime()
            numbers = sorted(field.nth(at) for at in range(field.size()))
            most = {2: 6, 3: 4, 5: 3, 7: 3, 13: 2}[prime]
            for poly in itertools.islice(naive.all_polys(prime, most), 1, 120):
                over = lifted(field, poly)
                found = [number for number in numbers if not any(over_value(field, over, number))]
                self.check(field, poly, [(number, self.count(field, poly, number)) for number in found])

    def test_all_whole_ones(self):
        for field in SMALL:
            numbers = sorted(field.nth(at) for at in range(field.size()))
            for degree, wholes in WHOLES[field.prime()].items():
                for poly in wholes:
                    over = lifted(field, poly)
                    found = [(number, 1) for number in numbers if not any(over_value(field, over, number))]
                    self.assertEqual(len(found), degree if len(field) % degree == 0 else 0)
                    self.check(field, poly, found)

    def test_products(self):
        chance = random.Random("products")
        for field in SMALL:
            prime = field.prime()
            known = [part for wholes in WHOLES[prime].values() for part in wholes]
            for _ in range(12):
                told = {part: chance.randrange(1, 4) for part in chance.sample(known, min(3, len(known)))}
                poly = naive.times((prime - 1,), naive.product(told.items(), prime), prime)
                if len(poly) > 25:
                    continue
                wanted = []
                for part, count in told.items():
                    wanted += [(number, count) for number, _ in roots(field, part)]
                    inside = len(field) % (len(part) - 1) == 0
                    self.assertEqual(len(roots(field, part)), len(part) - 1 if inside else 0)
                self.check(field, poly, sorted(wanted))

    def test_a_part_told_more_often_than_the_prime(self):
        for field in SMALL:
            prime = field.prime()
            for degree in (1, 2, 3):
                part = WHOLES[prime].get(degree, [None])[-1]
                if part is None:
                    continue
                for count in (prime - 1, prime, prime + 1, prime * prime, prime * prime + 1):
                    if 0 < degree * count <= 24:
                        inside = len(field) % degree == 0
                        wanted = [(number, count) for number, _ in roots(field, part)] if inside else []
                        self.check(field, naive.product([(part, count)], prime), wanted)
                        self.assertEqual(len(wanted), degree if inside else 0)

    def test_rests_have_no_root(self):
        for field in SMALL:
            for rest in range(1, field.prime()):
                self.check(field, (rest,), [])

    def test_rest_roots_are_plain(self):
        for field in SMALL:
            prime = field.prime()
            wanted = sorted((field.plain(rest), 1 + rest % 2) for rest in range(min(prime, 8)))
            poly = naive.product([((-rest % prime, 1), 1 + rest % 2) for rest in range(min(prime, 8))], prime)
            self.check(field, poly, wanted)

    def test_great_fields(self):
        for prime, degrees in ((97, (1, 2, 3, 4, 6, 12)), (89, (1, 2, 12)), (11, (3, 4, 12)), (2, (1, 2, 3, 4, 6, 12))):
            field = Field(least_whole(12, prime=prime), prime=prime)
            for degree in degrees:
                poly = least_whole(degree, prime=prime)
                told = roots(field, poly)
                self.assertEqual([count for _, count in told], [1] * degree)
                self.assertEqual(told, sorted(told))
                self.assertEqual(built(field, [number for number, _ in told]), lifted(field, poly))

    def test_great_products(self):
        for prime in (5, 31, 97):
            field = Field(least_whole(12, prime=prime), prime=prime)
            told = [(least_whole(degree, prime=prime), count) for degree, count in ((1, 3), (2, 2), (4, 1), (6, 1))]
            poly = naive.product(told + [(least_whole(5, prime=prime), 1)], prime)
            found = roots(field, poly)
            self.assertEqual(found, sorted(found))
            twice = [number for number, count in found for _ in range(count)]
            self.assertEqual(built(field, twice), lifted(field, naive.product(told, prime)))

    def test_other_degrees(self):
        for prime, degree in ((97, 11), (61, 10), (43, 9), (17, 8), (7, 7), (3, 10), (2, 11)):
            field = Field(least_whole(degree, prime=prime), prime=prime)
            for part in range(1, 13):
                poly = least_whole(part, prime=prime)
                found = roots(field, poly)
                self.assertEqual(len(found), part if degree % part == 0 else 0)
                if found:
                    self.assertEqual(built(field, [number for number, _ in found]), lifted(field, poly))

    def test_of_any_whole_polynomials(self):
        for prime in (2, 3, 19, 83):
            field = Field(least_whole(6, prime=prime), prime=prime)
            for poly in naive.some_polys(prime, 20, 4, "roots"):
                found = roots(field, poly)
                told = [(part, count) for part, count in parts(poly, prime=prime)[1] if 6 % (len(part) - 1) == 0]
                twice = [number for number, count in found for _ in range(count)]
                self.assertEqual(built(field, twice), lifted(field, naive.product(told, prime)))

    def test_every_prime(self):
        for prime in PRIMES:
            field = Field(least_whole(4, prime=prime), prime=prime)
            for poly in itertools.islice(naive.level_polys(prime, 2), 1, 12):
                found = roots(field, poly)
                twice = [number for number, count in found for _ in range(count)]
                self.assertEqual(built(field, twice), lifted(field, poly))

    def test_nought_and_what_is_no_polynomial(self):
        field = Field((2, 0, 1), prime=5)
        for poly in ((), (0,), (1, 0), (1, 5), (-1, 1), (True, 1), (1, True), (FORTY, 1), (1,) * 26):
            with self.assertRaises(BadPoly):
                roots(field, poly)

    def test_told_lists_changed_by_the_caller(self):
        field = Field((2, 0, 1), prime=5)
        told = roots(field, (1, 0, 0, 0, 1))
        before = list(told)
        told.reverse()
        told.pop()
        self.assertEqual(roots(field, (1, 0, 0, 0, 1)), before)


class Root(unittest.TestCase):
    def refused(self, error, field, poly):
        with self.assertRaises(error) as caught:
            root(field, poly)
        return caught.exception

    def test_the_first_of_all_roots(self):
        for field in SMALL:
            numbers = sorted(field.nth(at) for at in range(field.size()))
            for degree, wholes in WHOLES[field.prime()].items():
                for poly in wholes:
                    if len(field) % degree == 0:
                        over = lifted(field, poly)
                        found = [number for number in numbers if not any(over_value(field, over, number))]
                        self.assertEqual(root(field, poly), found[0])
                    else:
                        self.refused(NotWithin, field, poly)

    def test_great_fields(self):
        for prime, degree in ((97, 12), (97, 6), (53, 4), (2, 12), (3, 3)):
            field = Field(least_whole(12, prime=prime), prime=prime)
            poly = least_whole(degree, prime=prime)
            self.assertEqual(root(field, poly), roots(field, poly)[0][0])

    def test_bad_poly_ahead(self):
        field = Field((2, 0, 1), prime=5)
        for poly in (
            (), (1,), (3,), (0,), (1, 0), (1, 5), (-1, 1), (True, 1), (FORTY, 1), (1,) * 26,
            (1, 2), (0, 0, 2), (1, 0, 2), (1, 1, 0, 2), (0,) * 24 + (4,),
        ):
            self.assertEqual(self.refused(BadPoly, field, poly).word, "BadPoly")

    def test_not_whole_ahead_of_not_within(self):
        field = Field((2, 0, 1), prime=5)
        for poly, part in (
            ((0, 0, 1), (0, 1)), ((1, 0, 1), (2, 1)), ((1, 0, 0, 1), (1, 1)), ((0,) * 24 + (1,), (0, 1)),
            (naive.times((1, 1, 1), (2, 0, 1), 5), (1, 1, 1)),
            (naive.power((3, 0, 1), 12, 5), (3, 0, 1)),
        ):
            self.assertEqual(self.refused(NotWhole, field, poly).part, part)

    def test_not_whole_with_the_first_part(self):
        field = Field((1, 1, 1))
        for degree in range(2, 7):
            for poly in naive.level_polys(2, degree):
                if poly not in WHOLES[2][degree]:
                    first = naive.parts(poly, 2, WHOLES[2])[0][0]
                    self.assertEqual(self.refused(NotWhole, field, poly).part, first)

    def test_not_within(self):
        for prime, degree in ((2, 4), (5, 6), (97, 12)):
            field = Field(least_whole(degree, prime=prime), prime=prime)
            for other in range(1, 13):
                poly = least_whole(other, prime=prime)
                if degree % other:
                    self.refused(NotWithin, field, poly)
                else:
                    self.assertFalse(any(over_value(field, lifted(field, poly), root(field, poly))))


class Interface(unittest.TestCase):
    def test_names_of_what_is_handed_in(self):
        for name in ("root", "roots"):
            action = getattr(roots_file, name)
            self.assertEqual(str(inspect.signature(action)), "(field, poly)")
            self.assertEqual(action.__module__, "rungfields.roots")

    def test_handed_in_by_name(self):
        field = Field((1, 1, 1))
        self.assertEqual(root(poly=(1, 1, 1), field=field), (0, 1))
        self.assertEqual(roots(poly=(1, 1, 1), field=field), [((0, 1), 1), ((1, 1), 1)])


if __name__ == "__main__":
    unittest.main()
