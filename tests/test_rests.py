"""rungfields.rests: promises [2] and [3]."""

import inspect
import unittest

from rungfields import rests
from rungfields.errors import BadPrime, BadRest, NoInverse
from rungfields.rests import LEAST, PRIMES, is_prime, powered, undone

FORTY = 10**39 + 12345
NO_PRIMES = (0, 1, 4, 9, 15, 91, 98, 101, 103, -1, -2, -97, FORTY, -FORTY, True, False)


def naively_prime(number):
    return number > 1 and all(number % by for by in range(2, number))


def naive_power(number, exponent, prime):
    if exponent < 0:
        number = next(other for other in range(prime) if number * other % prime == 1)
    worth = 1 % prime
    for _ in range(abs(exponent)):
        worth = worth * number % prime
    return worth


class Primes(unittest.TestCase):
    def test_primes_are_those_to_97(self):
        self.assertEqual(PRIMES, tuple(number for number in range(98) if naively_prime(number)))
        self.assertEqual(len(PRIMES), 25)

    def test_primes_is_a_tuple(self):
        self.assertIs(type(PRIMES), tuple)

    def test_least(self):
        self.assertEqual(LEAST, 2)

    def test_is_prime_of_small_numbers(self):
        for number in range(-300, 98):
            self.assertIs(is_prime(number), naively_prime(number), number)

    def test_is_prime_only_of_those_to_97(self):
        for number in range(98, 1000):
            self.assertIs(is_prime(number), False, number)

    def test_is_prime_of_forty_figures(self):
        for number in (FORTY, -FORTY, 10**40 - 1, 1 - 10**40, 2**127 - 1):
            self.assertIs(is_prime(number), False)

    def test_is_prime_of_what_is_no_number(self):
        self.assertIs(is_prime(True), False)
        self.assertIs(is_prime(False), False)


class Undone(unittest.TestCase):
    def test_against_going_through_all_rests(self):
        for prime in PRIMES:
            for number in range(1, prime):
                wanted = [other for other in range(prime) if number * other % prime == 1]
                self.assertEqual([undone(number, prime=prime)], wanted)

    def test_nought_has_none(self):
        for prime in PRIMES:
            with self.assertRaises(NoInverse) as caught:
                undone(0, prime=prime)
            self.assertEqual(caught.exception.word, "NoInverse")

    def test_no_rest(self):
        for prime in PRIMES:
            for number in (prime, prime + 1, -1, -prime, FORTY, -FORTY, True, False):
                with self.assertRaises(BadRest):
                    undone(number, prime=prime)

    def test_the_prime_is_refused_first(self):
        for prime in NO_PRIMES:
            for number in (0, 1, -1, 200):
                with self.assertRaises(BadPrime):
                    undone(number, prime=prime)

    def test_default_prime(self):
        self.assertEqual(undone(1), 1)
        with self.assertRaises(NoInverse):
            undone(0)
        with self.assertRaises(BadRest):
            undone(2)


class Powered(unittest.TestCase):
    def test_against_going_through_all_rests(self):
        for prime in (2, 3, 5, 7, 11, 31, 97):
            for number in range(1, prime):
                for exponent in (*range(-9, 10), prime, -prime, 2 * prime - 2, 1 - prime):
                    self.assertEqual(
                        powered(number, exponent, prime=prime),
                        naive_power(number, exponent, prime),
                    )

    def test_exponents_of_forty_figures(self):
        for prime in PRIMES:
            for number in range(1, prime):
                for exponent in (FORTY, 10**40 - 1, 10**39):
                    ahead = powered(number, exponent, prime=prime)
                    behind = powered(number, -exponent, prime=prime)
                    self.assertEqual(ahead, pow(number, exponent, prime))
                    self.assertEqual(behind, pow(undone(number, prime=prime), exponent, prime))
                    self.assertEqual(ahead * behind % prime, 1)

    def test_a_power_to_nought_is_one(self):
        for prime in PRIMES:
            for number in range(prime):
                self.assertEqual(powered(number, 0, prime=prime), 1)

    def test_powers_of_nought(self):
        for prime in PRIMES:
            for exponent in (1, 2, prime - 1, prime, FORTY):
                self.assertEqual(powered(0, exponent, prime=prime), 0)
            for exponent in (-1, -2, 1 - prime, -prime, -FORTY):
                with self.assertRaises(NoInverse):
                    powered(0, exponent, prime=prime)

    def test_no_rest(self):
        for prime in PRIMES:
            for number in (prime, -1, -prime, FORTY, -FORTY, True):
                for exponent in (0, 1, -1):
                    with self.assertRaises(BadRest):
                        powered(number, exponent, prime=prime)

    def test_the_prime_is_refused_first(self):
        for prime in NO_PRIMES:
            for number in (0, 1, -1, 200):
                with self.assertRaises(BadPrime):
                    powered(number, -1, prime=prime)

    def test_default_prime(self):
        self.assertEqual(powered(1, -5), 1)
        self.assertEqual(powered(0, 3), 0)
        with self.assertRaises(BadRest):
            powered(2, 1)
        with self.assertRaises(NoInverse):
            powered(0, -1)


class Interface(unittest.TestCase):
    def test_names_of_what_is_handed_in(self):
        self.assertEqual(str(inspect.signature(is_prime)), "(number)")
        self.assertEqual(str(inspect.signature(undone)), "(number, *, prime=2)")
        self.assertEqual(str(inspect.signature(powered)), "(number, exponent, *, prime=2)")

    def test_handed_in_by_name(self):
        self.assertIs(is_prime(number=7), True)
        self.assertEqual(undone(number=3, prime=7), 5)
        self.assertEqual(powered(number=3, exponent=-2, prime=7), 4)
        self.assertEqual(powered(exponent=2, prime=7, number=3), 2)

    def test_the_prime_by_its_name_alone(self):
        with self.assertRaises(TypeError):
            undone(1, 5)
        with self.assertRaises(TypeError):
            powered(1, 1, 5)

    def test_defined_here(self):
        for name in ("is_prime", "undone", "powered"):
            self.assertEqual(getattr(rests, name).__module__, "rungfields.rests")


if __name__ == "__main__":
    unittest.main()
