"""rungfields.parting: promises [2] and [7]."""

import inspect
import itertools
import random
import unittest

import naive
from rungfields import parting
from rungfields.errors import BadPoly, BadPrime
from rungfields.parting import parts, rest_roots
from rungfields.rests import PRIMES
from rungfields.whole import is_whole, least_whole

FORTY = 10**39 + 12345
NO_PRIMES = (0, 1, 4, 9, 99, 101, -2, FORTY, -FORTY, True)
SMALL = {2: 8, 3: 5, 5: 4, 7: 3, 11: 2}
WHOLES = {prime: naive.sieve(prime, most) for prime, most in SMALL.items()}


def naive_count(poly, rest, prime):
    count = 0
    while naive.value(poly, rest, prime) == 0:
        poly = naive.parted(poly, (-rest % prime, 1), prime)[0]
        count += 1
    return count


class Parts(unittest.TestCase):
    def check(self, poly, prime):
        """That what is told is so, as far as a whole part is known to be whole."""
        told = parts(poly, prime=prime)
        self.assertIs(type(told), tuple)
        last, found = told
        self.assertEqual(last, poly[-1])
        self.assertIs(type(found), list)
        self.assertEqual(naive.times((last,), naive.product(found, prime), prime), poly)
        order = [(len(part), part) for part, _ in found]
        self.assertEqual(order, sorted(set(order)))
        for pair in found:
            self.assertIs(type(pair), tuple)
            part, count = pair
            self.assertIs(type(part), tuple)
            self.assertEqual(part[-1], 1)
            self.assertGreaterEqual(count, 1)
            self.assertIs(is_whole(part, prime=prime), True)
        return found

    def test_against_a_going_through_of_all(self):
        for prime, most in SMALL.items():
            for degree in range(most + 1):
                for poly in naive.level_polys(prime, degree):
                    wanted = naive.parts(poly, prime, WHOLES[prime])
                    self.assertEqual(parts(poly, prime=prime), (1, wanted))

    def test_other_last_rests(self):
        for prime in (3, 5, 7):
            for poly in naive.all_polys(prime, 4):
                if poly == ():
                    continue
                level = naive.times((pow(poly[-1], -1, prime),), poly, prime)
                wanted = naive.parts(level, prime, WHOLES[prime])
                self.assertEqual(parts(poly, prime=prime), (poly[-1], wanted))

    def test_counts_at_and_beyond_the_prime(self):
        for prime in (2, 3, 5):
            lines = [(rest, 1) for rest in range(prime)]
            square = WHOLES[prime][2][0]
            for counts in itertools.product((0, 1, prime - 1, prime, prime + 1), (0, 1, prime), (0, 1, prime)):
                told = [
                    (part, count)
                    for part, count in zip((lines[0], lines[1], square), counts)
                    if count > 0
                ]
                poly = naive.product(told, prime)
                if len(poly) <= 25:
                    self.assertEqual(parts(poly, prime=prime), (1, told))

    def test_a_part_to_the_primes_power_and_beyond(self):
        for prime in (2, 3, 5, 7, 11, 13, 23):
            for part in ((prime - 1, 1), least_whole(2, prime=prime)):
                for count in range(1, 24 // (len(part) - 1) + 1):
                    poly = naive.product([(part, count)], prime)
                    self.assertEqual(parts(poly, prime=prime), (1, [(part, count)]))

    def test_powers_of_the_prime_alone(self):
        self.assertEqual(parts((1,) + (0,) * 15 + (1,)), (1, [((1, 1), 16)]))
        self.assertEqual(parts((2,) + (0,) * 8 + (1,), prime=3), (1, [((2, 1), 9)]))
        self.assertEqual(parts((0,) * 24 + (3,), prime=5), (3, [((0, 1), 24)]))
        self.assertEqual(parts((1, 0, 1, 0, 1)), (1, [((1, 1, 1), 2)]))

    def test_all_rests_as_roots(self):
        for prime in (2, 3, 5, 7, 11, 13, 17, 19, 23):
            poly = (0, prime - 1) + (0,) * (prime - 2) + (1,)
            if len(poly) <= 25:
                wanted = sorted(((-rest % prime, 1), 1) for rest in range(prime))
                self.assertEqual(parts(poly, prime=prime), (1, wanted))

    def test_products_of_known_ones(self):
        chance = random.Random("products")
        for prime in PRIMES:
            wholes = [least_whole(degree, prime=prime) for degree in range(1, 8)]
            wholes += [(rest, 1) for rest in range(1, min(prime, 6))]
            for _ in range(6):
                told = {}
                degree = 0
                while degree < 18:
                    part = chance.choice(wholes)
                    told[part] = told.get(part, 0) + 1
                    degree += len(part) - 1
                wanted = sorted(told.items(), key=lambda pair: (len(pair[0]), pair))
                last = chance.randrange(1, prime)
                poly = naive.times((last,), naive.product(wanted, prime), prime)
                self.assertEqual(parts(poly, prime=prime), (last, wanted))

    def test_degrees_to_24_and_primes_to_97(self):
        for prime in PRIMES:
            for count in (2, 3, 9, 16, 24, 25):
                for poly in naive.some_polys(prime, count, 2, "parts"):
                    self.check(poly, prime)

    def test_every_prime_splits_what_splits(self):
        chance = random.Random("splits")
        for prime in PRIMES:
            for _ in range(2):
                rests = sorted(chance.sample(range(prime), min(prime, 24)))
                wanted = [((rest, 1), 1) for rest in rests]
                self.assertEqual(parts(naive.product(wanted, prime), prime=prime), (1, wanted))

    def test_rests(self):
        for prime in PRIMES:
            for rest in range(1, prime):
                self.assertEqual(parts((rest,), prime=prime), (rest, []))

    def test_plain_ones(self):
        lines = [((rest, 1), 1) for rest in (1, 2, 3, 4)]
        self.assertEqual(parts((4, 0, 0, 0, 1), prime=5), (1, lines))
        self.assertEqual(parts((0, 2, 4), prime=5), (4, [((0, 1), 1), ((3, 1), 1)]))
        self.assertEqual(parts((1, 1, 0, 0, 0, 1)), (1, [((1, 1, 1), 1), ((1, 0, 1, 1), 1)]))


class RestRoots(unittest.TestCase):
    def check(self, poly, prime):
        told = rest_roots(poly, prime=prime)
        self.assertIs(type(told), list)
        wanted = [
            (rest, naive_count(poly, rest, prime))
            for rest in range(prime)
            if naive.value(poly, rest, prime) == 0
        ]
        self.assertEqual(told, wanted)
        self.assertTrue(all(type(pair) is tuple for pair in told))

    def test_against_all_rests(self):
        for prime in (2, 3, 5):
            for poly in naive.all_polys(prime, 5):
                if poly != ():
                    self.check(poly, prime)

    def test_degrees_to_24_and_primes_to_97(self):
        for prime in PRIMES:
            for count in (1, 2, 3, 12, 25):
                for poly in naive.some_polys(prime, count, 3, "roots"):
                    self.check(poly, prime)

    def test_counts(self):
        for prime in PRIMES:
            wanted = [(0, 2), (1, 5)] if prime == 2 else [(0, 2), (1, 5), (prime - 1, 3)]
            poly = naive.product([((-rest % prime, 1), count) for rest, count in wanted], prime)
            poly = naive.times((prime - 1,), poly, prime)
            self.assertEqual(rest_roots(poly, prime=prime), wanted)
            self.assertEqual(rest_roots((0,) * 24 + (1,), prime=prime), [(0, 24)])
            power = naive.product([((prime - 1, 1), 24)], prime)
            self.assertEqual(rest_roots(power, prime=prime), [(1, 24)])

    def test_rests_have_none(self):
        for prime in PRIMES:
            for rest in range(1, prime):
                self.assertEqual(rest_roots((rest,), prime=prime), [])


class Refused(unittest.TestCase):
    WRONG = ((), (0,), (1, 0), (1, 5), (-1, 1), (True, 1), (1, True), (FORTY, 1), (1,) * 26)

    def test_bad_poly(self):
        for action, poly in itertools.product((parts, rest_roots), self.WRONG):
            with self.assertRaises(BadPoly) as caught:
                action(poly, prime=5)
            self.assertEqual(caught.exception.word, "BadPoly")

    def test_bad_prime_ahead(self):
        for action, prime in itertools.product((parts, rest_roots), NO_PRIMES):
            for poly in self.WRONG + ((1,), (1, 1)):
                with self.assertRaises(BadPrime):
                    action(poly, prime=prime)


class Interface(unittest.TestCase):
    def test_names_of_what_is_handed_in(self):
        for name in ("parts", "rest_roots"):
            action = getattr(parting, name)
            self.assertEqual(str(inspect.signature(action)), "(poly, *, prime=2)")
            self.assertEqual(action.__module__, "rungfields.parting")
            with self.assertRaises(TypeError):
                action((1, 1), 5)

    def test_handed_in_by_name(self):
        self.assertEqual(parts(poly=(2, 2), prime=3), (2, [((1, 1), 1)]))
        self.assertEqual(rest_roots(prime=3, poly=(2, 2)), [(2, 1)])

    def test_default_prime(self):
        self.assertEqual(parts((1, 0, 1)), (1, [((1, 1), 2)]))
        self.assertEqual(rest_roots((1, 0, 1)), [(1, 2)])
        with self.assertRaises(BadPoly):
            parts((2, 1))

    def test_told_lists_changed_by_the_caller(self):
        for action in (lambda poly: parts(poly, prime=5)[1], lambda poly: rest_roots(poly, prime=5)):
            told = action((0, 2, 4))
            before = list(told)
            told.clear()
            self.assertEqual(action((0, 2, 4)), before)


if __name__ == "__main__":
    unittest.main()
