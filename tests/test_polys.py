"""rungfields.polys: promises [2], [4], [5] and [6]."""

import inspect
import itertools
import unittest

import naive
from rungfields import polys
from rungfields.errors import BadNumber, BadPoly, BadPrime, BadRest, BadText, NoInverse
from rungfields.polys import poly_common, poly_left, poly_minus, poly_parted, poly_plus, poly_put
from rungfields.polys import poly_slope, poly_text, poly_times, poly_value, read_poly
from rungfields.rests import PRIMES

FORTY = 10**39 + 12345
X = (0, 1)
ALL_SMALL = [(prime, one) for prime in (2, 3, 5) for one in naive.all_polys(prime, 3)]
LONG = [
    (prime, one)
    for prime in (2, 3, 7, 31, 97)
    for count in (0, 1, 2, 5, 12, 24, 25)
    for one in naive.some_polys(prime, count, 2, "long")
]


def pairs():
    """Small polynomials, each with each, and long ones, each with each by the same prime."""
    for things in (ALL_SMALL, LONG):
        for (prime, one), (by, other) in itertools.product(things, repeat=2):
            if prime == by:
                yield prime, one, other


class Sums(unittest.TestCase):
    def test_plus(self):
        for prime, one, other in pairs():
            self.assertEqual(poly_plus(one, other, prime=prime), naive.plus(one, other, prime))

    def test_minus(self):
        for prime, one, other in pairs():
            self.assertEqual(poly_minus(one, other, prime=prime), naive.minus(one, other, prime))

    def test_times(self):
        for prime, one, other in pairs():
            self.assertEqual(poly_times(one, other, prime=prime), naive.times(one, other, prime))

    def test_sums_that_lose_their_last_rests(self):
        self.assertEqual(poly_plus((1, 2, 3), (1, 0, 2), prime=5), (2, 2))
        self.assertEqual(poly_plus((1, 3, 3), (1, 2, 2), prime=5), (2,))
        self.assertEqual(poly_plus((1, 1, 1), (1, 1, 1)), ())
        self.assertEqual(poly_minus((1, 2, 3), (0, 2, 3), prime=5), (1,))
        self.assertEqual(poly_minus((4, 0, 1), (4, 0, 1), prime=5), ())

    def test_nought(self):
        self.assertEqual(poly_plus((), ()), ())
        self.assertEqual(poly_plus((), (1, 2), prime=3), (1, 2))
        self.assertEqual(poly_plus((1, 2), (), prime=3), (1, 2))
        self.assertEqual(poly_minus((), (1, 2), prime=3), (2, 1))
        self.assertEqual(poly_minus((1, 2), (), prime=3), (1, 2))
        self.assertEqual(poly_times((), (1, 2), prime=3), ())
        self.assertEqual(poly_times((1, 2), (), prime=3), ())
        self.assertEqual(poly_times((), ()), ())

    def test_told_ones_of_more_than_25_rests(self):
        high = (0,) * 24 + (3,)
        self.assertEqual(poly_times(high, high, prime=5), (0,) * 48 + (4,))
        ones = (1,) * 25
        self.assertEqual(
            poly_times(ones, ones, prime=97),
            tuple(range(1, 26)) + tuple(range(24, 0, -1)),
        )


class Parted(unittest.TestCase):
    def test_quotient_and_rest_make_it_again(self):
        for prime, one, other in pairs():
            if other == ():
                continue
            told = poly_parted(one, other, prime=prime)
            self.assertIs(type(told), tuple)
            quotient, rest = told
            again = naive.plus(naive.times(quotient, other, prime), rest, prime)
            self.assertEqual(again, one)
            self.assertLess(len(rest), len(other))
            self.assertEqual((naive.cut(quotient), naive.cut(rest)), told)

    def test_plain_ones(self):
        self.assertEqual(poly_parted((1, 0, 1), (1, 1)), ((1, 1), ()))
        self.assertEqual(poly_parted((2, 0, 1), (1, 2), prime=3), ((2, 2), ()))
        self.assertEqual(poly_parted((1, 2, 3), (0, 2), prime=5), ((1, 4), (1,)))
        self.assertEqual(poly_parted((1, 2), (0, 0, 3), prime=5), ((), (1, 2)))
        self.assertEqual(poly_parted((1, 2), (3,), prime=5), ((2, 4), ()))
        self.assertEqual(poly_parted((), (3,), prime=5), ((), ()))

    def test_by_nought(self):
        for one in ((), (1,), (1, 1)):
            with self.assertRaises(NoInverse):
                poly_parted(one, ())


class Common(unittest.TestCase):
    def check(self, prime, one, other):
        told = poly_common(one, other, prime=prime)
        self.assertIs(type(told), tuple)
        self.assertEqual(len(told), 3)
        common, first, second = told
        made = naive.plus(naive.times(first, one, prime), naive.times(second, other, prime), prime)
        self.assertEqual(made, common)
        for poly in told:
            self.assertIs(type(poly), tuple)
            self.assertEqual(naive.cut(poly), poly)
            self.assertTrue(all(0 <= rest < prime for rest in poly))
        if one == other == ():
            self.assertEqual(common, ())
        else:
            # what parts both and is made of both is the greatest that does
            self.assertEqual(common[-1], 1)
            self.assertEqual(naive.left(one, common, prime), ())
            self.assertEqual(naive.left(other, common, prime), ())

    def test_it_parts_both_and_is_made_of_both(self):
        for prime, one, other in pairs():
            self.check(prime, one, other)

    def test_of_products(self):
        for prime in (2, 5, 97):
            for common in naive.some_polys(prime, 8, 3, "common"):
                one = naive.times(common, next(naive.some_polys(prime, 18, 1, common)), prime)
                other = naive.times(common, next(naive.some_polys(prime, 12, 1, common)), prime)
                self.check(prime, one, other)
                told = poly_common(one, other, prime=prime)[0]
                self.assertGreaterEqual(len(told), len(common))

    def test_plain_ones(self):
        self.assertEqual(poly_common((1, 0, 1), (1, 1))[0], (1, 1))
        self.assertEqual(poly_common((4, 0, 1), (1, 2, 1), prime=5)[0], (1, 1))
        self.assertEqual(poly_common((2,), (3,), prime=5)[0], (1,))

    def test_nought(self):
        self.assertEqual(poly_common((), ())[0], ())
        for prime in (2, 7):
            self.check(prime, (), ())
        self.assertEqual(poly_common((2, 4), (), prime=5)[0], (3, 1))
        self.assertEqual(poly_common((), (2, 4), prime=5)[0], (3, 1))


class Values(unittest.TestCase):
    def test_value(self):
        for prime, one in ALL_SMALL + LONG:
            for number in range(prime):
                told = poly_value(one, number, prime=prime)
                self.assertEqual(told, naive.value(one, number, prime))

    def test_no_rest(self):
        for number in (5, -1, FORTY, -FORTY, True, False):
            for one in ((), (1,), (1, 2)):
                with self.assertRaises(BadRest):
                    poly_value(one, number, prime=5)

    def test_put(self):
        for prime in (2, 3):
            small = list(naive.all_polys(prime, 3))
            for one, other, rule in itertools.product(small, small, small[1:]):
                told = poly_put(one, other, rule, prime=prime)
                self.assertEqual(told, naive.left(naive.put(one, other, prime), rule, prime))

    def test_put_long_ones(self):
        for prime in (2, 5, 97):
            for one in naive.some_polys(prime, 9, 2, "put"):
                for other in naive.some_polys(prime, 4, 2, "in"):
                    for rule in naive.some_polys(prime, 7, 2, "rule"):
                        told = poly_put(one, other, rule, prime=prime)
                        whole = naive.put(one, other, prime)
                        self.assertEqual(told, naive.left(whole, rule, prime))

    def test_put_the_longest(self):
        one = (0,) * 24 + (1,)
        rule = (2,) + (0,) * 23 + (1,)
        # x to the 24 is 3 there, and 3 to the 24 is 1
        self.assertEqual(poly_put(one, one, rule, prime=5), (1,))

    def test_put_by_nought(self):
        with self.assertRaises(NoInverse):
            poly_put((1, 1), X, ())

    def test_slope(self):
        for prime, one in ALL_SMALL + LONG:
            wanted = [place * one[place] % prime for place in range(1, len(one))]
            self.assertEqual(poly_slope(one, prime=prime), naive.cut(wanted))

    def test_plain_slopes(self):
        self.assertEqual(poly_slope(()), ())
        self.assertEqual(poly_slope((1,)), ())
        self.assertEqual(poly_slope((1, 0, 1)), ())
        self.assertEqual(poly_slope((1, 2, 3, 4), prime=5), (2, 1, 2))
        self.assertEqual(poly_slope((1, 2, 0, 1), prime=3), (2,))


class Powers(unittest.TestCase):
    def test_small_exponents(self):
        for prime in (2, 3):
            small = list(naive.all_polys(prime, 3))
            for one, rule in itertools.product(small, small[1:]):
                for exponent in range(6):
                    told = poly_left(one, exponent, rule, prime=prime)
                    wanted = naive.left(naive.power(one, exponent, prime), rule, prime)
                    self.assertEqual(told, wanted)

    def test_long_ones(self):
        for prime in (2, 5, 97):
            one = next(naive.some_polys(prime, 25, 1, "one"))
            for count in (24, 25):
                rule = next(naive.some_polys(prime, count, 1, "rule"))
                wanted = (1,)
                for exponent in range(8):
                    self.assertEqual(poly_left(one, exponent, rule, prime=prime), wanted)
                    wanted = naive.left(naive.times(wanted, one, prime), rule, prime)

    def test_exponents_of_forty_figures(self):
        # x has 3 powers by the first rule, 8 by the second; the third is no level one
        for prime, rule, round_trip in ((2, (1, 1, 1), 3), (3, (2, 1, 1), 8), (5, (4, 2), 4)):
            for exponent in (FORTY, 10**40 - 1, 10**39):
                told = poly_left(X, exponent, rule, prime=prime)
                wanted = naive.power(X, exponent % round_trip, prime)
                self.assertEqual(told, naive.left(wanted, rule, prime))

    def test_forty_figures_by_long_rules(self):
        for prime in (2, 97):
            one = next(naive.some_polys(prime, 25, 1, "one"))
            rule = next(naive.some_polys(prime, 25, 1, "forty"))
            half = poly_left(one, FORTY // 2, rule, prime=prime)
            whole = naive.times(naive.times(half, half, prime), one, prime)
            self.assertEqual(FORTY % 2, 1)
            self.assertEqual(
                poly_left(one, FORTY, rule, prime=prime),
                naive.left(whole, rule, prime),
            )

    def test_a_power_to_nought_is_what_one_leaves(self):
        for one in ((), (1,), X, (3, 4, 1)):
            self.assertEqual(poly_left(one, 0, (1, 0, 2), prime=5), (1,))
            self.assertEqual(poly_left(one, 0, (0, 3), prime=5), (1,))
            self.assertEqual(poly_left(one, 0, (3,), prime=5), ())

    def test_rules_that_are_not_level(self):
        self.assertEqual(poly_left(X, 2, (1, 0, 2), prime=5), (2,))
        self.assertEqual(poly_put((0, 0, 1), X, (1, 0, 2), prime=5), (2,))

    def test_rules_of_degree_nought(self):
        for one in ((), (1,), X, (1, 2, 3)):
            for exponent in (0, 1, 2, FORTY):
                self.assertEqual(poly_left(one, exponent, (2,), prime=5), ())
            self.assertEqual(poly_put(one, (1, 1), (2,), prime=5), ())

    def test_powers_of_nought(self):
        for exponent in (1, 2, FORTY):
            self.assertEqual(poly_left((), exponent, (1, 1, 1)), ())

    def test_exponents_below_nought(self):
        for exponent in (-1, -2, -FORTY):
            with self.assertRaises(BadNumber):
                poly_left(X, exponent, (1, 1, 1))

    def test_by_nought(self):
        for exponent in (0, 1, FORTY):
            with self.assertRaises(NoInverse):
                poly_left(X, exponent, ())

    def test_the_exponent_is_refused_ahead_of_nought(self):
        with self.assertRaises(BadNumber):
            poly_left(X, -1, ())


class Texts(unittest.TestCase):
    PLAIN = (
        (5, (1, 3, 0, 0, 1), "1 + 3x + x^4"),
        (2, (), "0"),
        (2, (1,), "1"),
        (97, (96,), "96"),
        (2, (0, 1), "x"),
        (3, (0, 2), "2x"),
        (3, (0, 0, 1), "x^2"),
        (3, (0, 0, 2), "2x^2"),
        (2, (1, 1, 1), "1 + x + x^2"),
        (13, (10, 11, 12), "10 + 11x + 12x^2"),
        (13, (0, 0, 0, 11, 1), "11x^3 + x^4"),
        (2, (0,) * 24 + (1,), "x^24"),
        (97, (0,) * 10 + (1,) + (0,) * 13 + (96,), "x^10 + 96x^24"),
    )
    WRONG = (
        "", " ", "+", "x + 1", "1 + 1", "x + x", "1x", "1 + 1x", "x^1", "x^0", "2x^0", "0x", "0x^2",
        "0 + x", "x + 0", "0 + 0", "00", "01", "02x", "x^02", "x^", "^2", "x2", "x^2 + x", "X",
        "1 +x", "1+ x", "1+x", "1  + x", "1 +  x", " 1", "1 ", "1\n", "\n1", "1\n+ x", "+ 1",
        "1 + ", " + 1", "1 + + x", "1 - x", "-1", "+1", "x^-1", "x^+2", "x^2x", "xx", "2xx", "x^^2",
        "x**2", "2*x", "2 x", "x ^2", "x^ 2", "(1)", "y", "1 + y", "1.0", "1_0", "x^1_0", "x^2^2",
        "5", "6", "10", "5x", "1 + 5x^2", "100", "x^25", "4x^25", "1 + x^25", "x^26", "x^30",
        "x^100", "x^024", "x^1000000", "9" * 400, "x^" + "9" * 398, "1" + " + x" * 99, "0" * 400,
    )

    def refused(self, text, prime):
        with self.assertRaises(BadText, msg=text) as caught:
            read_poly(text, prime=prime)
        self.assertEqual(caught.exception.at, 0)

    def test_plain_ones(self):
        for prime, poly, text in self.PLAIN:
            self.assertEqual(poly_text(poly, prime=prime), text)
            self.assertEqual(read_poly(text, prime=prime), poly)

    def test_told_and_read(self):
        for prime, one in ALL_SMALL + LONG:
            text = poly_text(one, prime=prime)
            self.assertEqual(naive.read(text, prime), one)
            told = read_poly(text, prime=prime)
            self.assertEqual(told, one)
            self.assertIs(type(told), tuple)

    def test_the_longest(self):
        poly = (96,) * 25
        text = poly_text(poly, prime=97)
        self.assertEqual(text[:22], "96 + 96x + 96x^2 + 96x")
        self.assertEqual(read_poly(text, prime=97), poly)

    def test_wrong_ones(self):
        for text in self.WRONG:
            self.refused(text, 5)

    def test_each_text_bent_by_a_sign(self):
        for prime, poly, text in self.PLAIN:
            for bent in self.bends(text):
                wanted = naive.read(bent, prime)
                if wanted is None:
                    self.refused(bent, prime)
                else:
                    self.assertEqual(read_poly(bent, prime=prime), wanted)

    def bends(self, text):
        for at in range(len(text) + 1):
            yield text[:at] + text[at + 1 :]
            for sign in " +-x^X.0123459\n":
                yield text[:at] + sign + text[at:]
                yield text[:at] + sign + text[at + 1 :]

    def test_blanks_and_strange_signs_are_never_read(self):
        for prime, _, text in self.PLAIN:
            for at in range(len(text) + 1):
                for sign in " -X.\n":
                    self.refused(text[:at] + sign + text[at:], prime)

    def test_a_rest_beyond_the_prime(self):
        for prime in PRIMES:
            for text in (f"{prime}", f"{prime}x", f"1 + {prime}x^3", f"{prime + 1}x"):
                self.refused(text, prime)
            self.assertEqual(read_poly(f"{prime - 1} + x", prime=prime), (prime - 1, 1))

    def test_a_power_above_24(self):
        for prime in (2, 97):
            self.assertEqual(len(read_poly("x^24", prime=prime)), 25)
            for power in (25, 26, 99, 100, 240, 10**9):
                self.refused(f"x^{power}", prime)
                self.refused(f"1 + x^24 + x^{power}", prime)

    def test_the_prime_is_refused_ahead_of_the_text(self):
        for text in ("1", "", "x^25"):
            with self.assertRaises(BadPrime):
                read_poly(text, prime=6)


class Refusals(unittest.TestCase):
    WRONG = ((0,), (1, 0), (0, 0, 0), (5,), (1, 5), (7, 1), (-1,), (1, -1, 1), (1,) * 26,
             (FORTY, 1), (1, -FORTY), (0,) * 25 + (1,), (True,), (1, True), (False, 1))
    ONES = (poly_slope, poly_text)
    TWOS = (poly_plus, poly_minus, poly_times, poly_parted, poly_common)

    def refused(self, error, action, *told, prime=5):
        with self.assertRaises(error, msg=(action, told)) as caught:
            action(*told, prime=prime)
        self.assertEqual(caught.exception.word, error.__name__)

    def test_bad_poly_of_one(self):
        for wrong in self.WRONG:
            for action in self.ONES:
                self.refused(BadPoly, action, wrong)

    def test_bad_poly_at_either_place(self):
        for wrong in self.WRONG:
            for action in self.TWOS:
                for good in ((), (1,), (1, 2)):
                    self.refused(BadPoly, action, wrong, good)
                    self.refused(BadPoly, action, good, wrong)
                self.refused(BadPoly, action, wrong, wrong)

    def test_bad_poly_ahead_of_all_else(self):
        for wrong in self.WRONG:
            self.refused(BadPoly, poly_value, wrong, 5)
            self.refused(BadPoly, poly_value, wrong, 1)
            for rule in ((), (1, 1)):
                self.refused(BadPoly, poly_put, wrong, X, rule)
                self.refused(BadPoly, poly_put, X, wrong, rule)
                self.refused(BadPoly, poly_left, wrong, -1, rule)
                self.refused(BadPoly, poly_left, wrong, 1, rule)
            self.refused(BadPoly, poly_put, X, X, wrong)
            self.refused(BadPoly, poly_left, X, -1, wrong)
            self.refused(BadPoly, poly_left, X, 1, wrong)

    def test_bad_prime_ahead_of_all_else(self):
        for prime in (0, 1, 4, 6, 99, 101, -2, -5, FORTY, -FORTY, True):
            for poly in ((), (1,), (1, 1), (1, 0), (-1,), (1,) * 26):
                for action in self.ONES:
                    self.refused(BadPrime, action, poly, prime=prime)
                for action in self.TWOS:
                    self.refused(BadPrime, action, poly, (), prime=prime)
                    self.refused(BadPrime, action, (), poly, prime=prime)
                self.refused(BadPrime, poly_value, poly, -1, prime=prime)
                self.refused(BadPrime, poly_put, poly, poly, (), prime=prime)
                self.refused(BadPrime, poly_left, poly, -1, (), prime=prime)

    def test_25_rests_are_taken(self):
        longest = (1,) * 25
        self.assertEqual(poly_plus(longest, (), prime=5), longest)
        self.assertEqual(poly_minus((), longest, prime=5), (4,) * 25)
        self.assertEqual(poly_value(longest, 1, prime=5), 0)
        self.assertEqual(poly_parted(longest, longest, prime=5), ((1,), ()))

    def test_what_is_told_as_rests_depends_on_the_prime(self):
        self.assertEqual(poly_plus((6,), (), prime=7), (6,))
        self.refused(BadPoly, poly_plus, (6,), ())


class Interface(unittest.TestCase):
    FORMS = {
        "poly_plus": "(one, other, *, prime=2)",
        "poly_minus": "(one, other, *, prime=2)",
        "poly_times": "(one, other, *, prime=2)",
        "poly_parted": "(one, other, *, prime=2)",
        "poly_common": "(one, other, *, prime=2)",
        "poly_value": "(one, number, *, prime=2)",
        "poly_put": "(one, other, rule, *, prime=2)",
        "poly_left": "(one, exponent, rule, *, prime=2)",
        "poly_slope": "(one, *, prime=2)",
        "poly_text": "(one, *, prime=2)",
        "read_poly": "(text, *, prime=2)",
    }

    def test_names_of_what_is_handed_in(self):
        for name, form in self.FORMS.items():
            action = getattr(polys, name)
            self.assertEqual(str(inspect.signature(action)), form)
            self.assertEqual(action.__module__, "rungfields.polys")

    def test_the_prime_by_its_name_alone(self):
        for action in (poly_plus, poly_minus, poly_times, poly_parted, poly_common):
            with self.assertRaises(TypeError):
                action((1,), (1,), 5)
        with self.assertRaises(TypeError):
            poly_slope((1,), 5)
        with self.assertRaises(TypeError):
            read_poly("1", 5)

    def test_handed_in_by_name(self):
        self.assertEqual(poly_plus(one=(1,), other=(0, 1), prime=3), (1, 1))
        self.assertEqual(poly_minus(other=(0, 1), one=(1,), prime=3), (1, 2))
        self.assertEqual(poly_value(one=(1, 1), number=1, prime=3), 2)
        self.assertEqual(poly_put(one=X, other=X, rule=(1, 0, 1), prime=3), X)
        self.assertEqual(poly_left(one=X, exponent=2, rule=(1, 0, 1), prime=3), (2,))
        self.assertEqual(read_poly(text="2x", prime=3), (0, 2))

    def test_default_prime(self):
        self.assertEqual(poly_plus((1, 1), (1,)), (0, 1))
        self.assertEqual(poly_text((1, 1)), "1 + x")
        self.assertEqual(read_poly("1 + x"), (1, 1))
        with self.assertRaises(BadPoly):
            poly_slope((0, 2))
        with self.assertRaises(BadText):
            read_poly("2x")


if __name__ == "__main__":
    unittest.main()
