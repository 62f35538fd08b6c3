"""rungfields.whole: promises [2], [7], [8] and [9]."""

import inspect
import itertools
import unittest

import naive
from rungfields import whole
from rungfields.errors import BadDegree, BadPoly, BadPrime
from rungfields.parting import parts
from rungfields.polys import poly_common, poly_left
from rungfields.rests import PRIMES
from rungfields.whole import is_whole, least_whole, paper, paper_holds

FORTY = 10**39 + 12345
NO_PRIMES = (0, 1, 4, 9, 99, 101, -2, FORTY, -FORTY, True)
X = (0, 1)
SMALL = {2: 8, 3: 5, 5: 4, 7: 3, 11: 2, 13: 2}
WHOLES = {prime: naive.sieve(prime, most) for prime, most in SMALL.items()}
WRONG = ((0,), (1, 0), (1, 5), (-1, 1), (True, 1), (1, True), (FORTY, 1), (1,) * 26)


def carried(one, other):
    """The product of two polynomials by 2, both the bits of a number."""
    total = 0
    while other:
        total ^= one * (other & 1)
        one <<= 1
        other >>= 1
    return total


def bit_left(one, rule):
    while one.bit_length() >= rule.bit_length():
        one ^= rule << (one.bit_length() - rule.bit_length())
    return one


def bits(number):
    return tuple(int(sign) for sign in reversed(f"{number:b}"))


def whole_ones(prime):
    """Whole polynomials of many degrees, also some that aren't level."""
    for degree, told in WHOLES[prime].items():
        for poly in told[:3] + told[-3:]:
            yield poly
            yield naive.times((prime - 1,), poly, prime)
    for degree in range(1, 13):
        yield least_whole(degree, prime=prime)


def other_ones(prime):
    """Polynomials of degree 1 at least that aren't whole."""
    for degree in range(2, SMALL[prime] + 1):
        for poly in itertools.islice(naive.level_polys(prime, degree), 40):
            if poly not in WHOLES[prime][degree]:
                yield poly
                yield naive.times((prime - 1,), poly, prime)
    for poly in naive.some_polys(prime, 25, 4, "papers"):
        if parts(poly, prime=prime)[1] != [(poly, 1)]:
            yield poly


class IsWhole(unittest.TestCase):
    def test_against_all_products(self):
        for prime, most in SMALL.items():
            for degree in range(1, most + 1):
                known = set(WHOLES[prime][degree])
                for poly in naive.level_polys(prime, degree):
                    self.assertIs(is_whole(poly, prime=prime), poly in known)

    def test_not_level_ones(self):
        for prime in (3, 5, 7):
            for poly in naive.all_polys(prime, 4):
                if len(poly) > 1:
                    level = naive.times((pow(poly[-1], -1, prime),), poly, prime)
                    known = level in WHOLES[prime][len(poly) - 1]
                    self.assertIs(is_whole(poly, prime=prime), known)

    def test_by_2_to_degree_13(self):
        struck = set()
        for one in range(2, 1 << 7):
            for other in range(2, 1 << 13):
                if one.bit_length() + other.bit_length() <= 15:
                    struck.add(carried(one, other))
        for number in range(2, 1 << 14):
            self.assertIs(is_whole(bits(number)), number not in struck)

    def test_by_2_beyond_degree_13(self):
        for degree in (14, 15, 16, 18, 20):
            found = 0
            for number in range((1 << degree) + 1, (1 << degree) + 60, 2):
                tried = range(2, 1 << (degree // 2 + 1))
                known = all(bit_left(number, rule) for rule in tried)
                self.assertIs(is_whole(bits(number)), known)
                found += known
            self.assertGreater(found, 0)

    def test_great_ones_against_their_parts(self):
        for prime in PRIMES:
            for count in (13, 20, 24, 25):
                for poly in naive.some_polys(prime, count, 3, "whole"):
                    counts = [count for _, count in parts(poly, prime=prime)[1]]
                    self.assertIs(is_whole(poly, prime=prime), counts == [1])

    def test_squares_are_not(self):
        for prime in PRIMES:
            for degree in (1, 2, 5, 12):
                one = least_whole(degree, prime=prime)
                self.assertIs(is_whole(one, prime=prime), True)
                self.assertIs(is_whole(naive.times(one, one, prime), prime=prime), False)

    def test_those_of_degree_1_are(self):
        for prime in PRIMES:
            for low, last in itertools.product((0, 1, prime - 1), (1, prime - 1)):
                self.assertIs(is_whole((low, last), prime=prime), True)

    def test_nought_and_rests_are_not(self):
        for prime in PRIMES:
            self.assertIs(is_whole((), prime=prime), False)
            for rest in range(1, prime):
                self.assertIs(is_whole((rest,), prime=prime), False)

    def test_refused(self):
        for poly in WRONG:
            with self.assertRaises(BadPoly):
                is_whole(poly, prime=5)
        for poly, prime in itertools.product(WRONG + ((), (1,), (1, 1)), NO_PRIMES):
            with self.assertRaises(BadPrime):
                is_whole(poly, prime=prime)


class Paper(unittest.TestCase):
    def check_whole(self, poly, prime):
        """A paper of a whole polynomial, walked by hand."""
        told = paper(poly, prime=prime)
        self.assertIs(type(told), tuple)
        word, turns, shows = told
        self.assertEqual(word, "whole")
        self.assertIs(type(turns), list)
        self.assertIs(type(shows), list)
        degree = len(poly) - 1
        level = naive.times((pow(poly[-1], -1, prime),), poly, prime)
        turn = naive.parted(X, level, prime)[1]
        start = turn
        self.assertEqual(len(turns), degree)
        for own in turns:
            power = (1,)
            for _ in range(prime):
                power = naive.parted(naive.times(power, turn, prime), level, prime)[1]
            turn = power
            self.assertEqual(own, turn)
        self.assertEqual(turn, start)
        by = [number for number in PRIMES if degree % number == 0]
        self.assertEqual(len(shows), len(by))
        for show, number in zip(shows, by):
            self.assertIs(type(show), tuple)
            first, second = show
            less = naive.minus(turns[degree // number - 1], X, prime)
            made = naive.plus(naive.times(first, less, prime), naive.times(second, poly, prime), prime)
            self.assertEqual(made, (1,))
            self.assertEqual((naive.cut(first), naive.cut(second)), show)

    def test_of_whole_ones(self):
        for prime in SMALL:
            for poly in whole_ones(prime):
                self.check_whole(poly, prime)

    def test_of_great_primes(self):
        for prime, degree in ((97, 1), (97, 2), (97, 12), (83, 6), (61, 11), (31, 9), (2, 12)):
            self.check_whole(least_whole(degree, prime=prime), prime)

    def test_of_degree_24(self):
        poly = next(
            bits(number) for number in range((1 << 24) + 1, 1 << 25, 2) if is_whole(bits(number))
        )
        self.check_whole(poly, 2)

    def test_of_other_ones(self):
        for prime in SMALL:
            for poly in other_ones(prime):
                told = paper(poly, prime=prime)
                self.assertIs(type(told), tuple)
                word, one, other = told
                self.assertEqual(word, "parts")
                self.assertEqual(one, parts(poly, prime=prime)[1][0][0])
                self.assertGreater(len(other), 1)
                self.assertEqual(naive.times(one, other, prime), poly)

    def test_of_other_ones_against_known_parts(self):
        for prime in SMALL:
            for degree in range(2, SMALL[prime] + 1):
                for poly in itertools.islice(naive.level_polys(prime, degree), 60):
                    if poly not in WHOLES[prime][degree]:
                        first = naive.parts(poly, prime, WHOLES[prime])[0][0]
                        wanted = ("parts", first, naive.parted(poly, first, prime)[0])
                        self.assertEqual(paper(poly, prime=prime), wanted)

    def test_plain_ones(self):
        self.assertEqual(paper((1, 0, 1)), ("parts", (1, 1), (1, 1)))
        self.assertEqual(paper((2, 0, 2), prime=5), ("parts", (2, 1), (1, 2)))
        self.assertEqual(paper((2, 3), prime=5), ("whole", [(1,)], []))
        self.assertEqual(paper(X), ("whole", [()], []))

    def test_one_kind_alone(self):
        for prime in (2, 3):
            for degree in range(1, 6):
                for poly in naive.level_polys(prime, degree):
                    known = poly in WHOLES[prime][degree]
                    self.assertEqual(paper(poly, prime=prime)[0], "whole" if known else "parts")

    def test_told_lists_changed_by_the_caller(self):
        told = paper((1, 1, 1))
        before = (told[0], list(told[1]), list(told[2]))
        told[1].clear()
        told[2].append(0)
        self.assertEqual(paper((1, 1, 1)), before)


class Holds(unittest.TestCase):
    def holds(self, poly, told, prime):
        answer = paper_holds(poly, told, prime=prime)
        self.assertIs(type(answer), bool)
        return answer

    def test_told_papers_hold(self):
        for prime in SMALL:
            for poly in (*whole_ones(prime), *other_ones(prime)):
                self.assertTrue(self.holds(poly, paper(poly, prime=prime), prime))

    def test_turns_and_shows_as_tuples(self):
        for prime in SMALL:
            for poly in whole_ones(prime):
                word, turns, shows = paper(poly, prime=prime)
                self.assertTrue(self.holds(poly, (word, tuple(turns), tuple(shows)), prime))
                self.assertTrue(self.holds(poly, (word, tuple(turns), shows), prime))
                self.assertTrue(self.holds(poly, (word, turns, tuple(shows)), prime))

    def bent_polys(self, poly, prime):
        """Polynomials unlike one, and what is none."""
        yield naive.plus(poly, (1,), prime)
        yield naive.plus(poly, (0, 0, 1), prime)
        yield poly + (1,)
        yield poly + (0,)
        yield poly + (prime,)
        yield poly + (prime - 1,)
        yield (-1,) + poly[1:] + (1,)
        yield poly + (0,) * (26 - len(poly)) + (1,)
        if poly:
            yield poly[:-1] + (poly[-1] + prime,)
            yield poly[:-1] + (poly[-1] - prime,)
            yield naive.cut(poly[:-1])
        if 1 in poly:
            yield tuple(True if rest == 1 else rest for rest in poly)

    def test_bent_turns(self):
        for prime in (2, 3, 7):
            for poly in whole_ones(prime):
                word, turns, shows = paper(poly, prime=prime)
                for at, turn in enumerate(turns):
                    for bent in self.bent_polys(turn, prime):
                        told = turns[:at] + [bent] + turns[at + 1:]
                        self.assertFalse(self.holds(poly, (word, told, shows), prime))
                    left_out = turns[:at] + turns[at + 1:]
                    self.assertFalse(self.holds(poly, (word, left_out, shows), prime))
                    twice = turns[:at] + [turn] + turns[at:]
                    self.assertFalse(self.holds(poly, (word, twice, shows), prime))
                for one, other in itertools.combinations(range(len(turns)), 2):
                    told = list(turns)
                    told[one], told[other] = told[other], told[one]
                    self.assertFalse(self.holds(poly, (word, told, shows), prime))

    def test_bent_shows(self):
        for prime in (2, 3, 7):
            for poly in whole_ones(prime):
                word, turns, shows = paper(poly, prime=prime)
                for at, (first, second) in enumerate(shows):
                    for bent in self.bent_polys(first, prime):
                        told = shows[:at] + [(bent, second)] + shows[at + 1:]
                        self.assertFalse(self.holds(poly, (word, turns, told), prime))
                    for bent in self.bent_polys(second, prime):
                        told = shows[:at] + [(first, bent)] + shows[at + 1:]
                        self.assertFalse(self.holds(poly, (word, turns, told), prime))
                    left_out = shows[:at] + shows[at + 1:]
                    self.assertFalse(self.holds(poly, (word, turns, left_out), prime))
                    twice = shows[:at] + [shows[at]] + shows[at:]
                    self.assertFalse(self.holds(poly, (word, turns, twice), prime))
                self.assertFalse(self.holds(poly, (word, turns, shows + [((), ())]), prime))
                if len(shows) == 2:
                    self.assertFalse(self.holds(poly, (word, turns, shows[::-1]), prime))

    def test_the_pair_of_a_show_turned_about(self):
        for prime, poly in ((2, (1, 1, 1)), (3, (1, 0, 1)), (7, least_whole(6, prime=7))):
            word, turns, shows = paper(poly, prime=prime)
            for at, (first, second) in enumerate(shows):
                told = shows[:at] + [(second, first)] + shows[at + 1:]
                less = naive.minus(turns[(len(poly) - 1) // (2, 3)[at] - 1], X, prime)
                made = naive.plus(naive.times(second, less, prime), naive.times(first, poly, prime), prime)
                self.assertNotEqual(made, (1,))
                self.assertFalse(self.holds(poly, (word, turns, told), prime))

    def test_other_shows_that_make_one_hold(self):
        for prime in (2, 3, 7):
            for poly in whole_ones(prime):
                word, turns, shows = paper(poly, prime=prime)
                degree = len(poly) - 1
                told = []
                for (first, second), by in zip(shows, [by for by in PRIMES if degree % by == 0]):
                    less = naive.minus(turns[degree // by - 1], X, prime)
                    told.append((naive.plus(first, poly, prime), naive.minus(second, less, prime)))
                if told:
                    self.assertTrue(self.holds(poly, (word, turns, told), prime))

    def test_bent_parts(self):
        for prime in SMALL:
            for poly in other_ones(prime):
                word, one, other = paper(poly, prime=prime)
                for bent in self.bent_polys(one, prime):
                    self.assertFalse(self.holds(poly, (word, bent, other), prime))
                for bent in self.bent_polys(other, prime):
                    self.assertFalse(self.holds(poly, (word, one, bent), prime))
                self.assertFalse(self.holds(poly, (word, (1,), poly), prime))
                self.assertFalse(self.holds(poly, (word, poly, (1,)), prime))
                self.assertFalse(self.holds(poly, (word, (), ()), prime))

    def test_any_parts_whose_product_it_is_hold(self):
        poly = naive.times((1, 1, 1), naive.times((1, 1), (1, 1), 2), 2)
        for one, other in (((1, 1), (1, 0, 0, 1)), ((1, 0, 1), (1, 1, 1))):
            self.assertTrue(self.holds(poly, ("parts", one, other), 2))
            self.assertTrue(self.holds(poly, ("parts", other, one), 2))
        self.assertTrue(self.holds((1, 2, 1), ("parts", (2, 2), (3, 3)), 5))

    def test_no_parts_of_whole_ones(self):
        for prime in (2, 3, 5):
            for poly in WHOLES[prime][2]:
                for one, other in itertools.product(naive.all_polys(prime, 3), repeat=2):
                    self.assertFalse(self.holds(poly, ("parts", one, other), prime))
                    self.assertFalse(self.holds(poly, ("parts", [one], [other]), prime))

    def test_another_word(self):
        for prime in (2, 3):
            for poly in (*whole_ones(prime), *other_ones(prime)):
                word, one, other = paper(poly, prime=prime)
                exchanged = {"parts": "whole", "whole": "parts"}[word]
                for bent in ("", "Whole", "Parts", "part", "wholes", "x", exchanged):
                    self.assertFalse(self.holds(poly, (bent, one, other), prime))

    def test_the_paper_of_another_one(self):
        for prime in (2, 3):
            told = list(itertools.chain(whole_ones(prime), other_ones(prime)))[::8]
            for one, other in itertools.permutations(told, 2):
                if one[-1] == other[-1] and one != other:
                    self.assertFalse(self.holds(one, paper(other, prime=prime), prime))

    def test_turns_of_one_that_is_not_whole(self):
        for prime in (2, 3):
            for poly in other_ones(prime):
                if len(poly) > 8 or poly[-1] != 1:
                    continue
                turn = naive.parted(X, poly, prime)[1]
                turns = []
                for _ in poly[1:]:
                    turn = naive.parted(naive.power(turn, prime, prime), poly, prime)[1]
                    turns.append(turn)
                for show in (((), ()), ((1,), ()), ((), (1,)), ((1,), (1,))):
                    by = [number for number in PRIMES if (len(poly) - 1) % number == 0]
                    self.assertFalse(self.holds(poly, ("whole", turns, [show] * len(by)), prime))

    def test_right_turns_and_shows_of_one_that_is_not_whole(self):
        # its parts are all greater than the turns in the shows would part, but the last turn isn't x
        for prime, parts_told in (
            (2, ((1, 1, 1), (1, 1, 0, 1))), (2, ((1, 1, 0, 1), (1, 1, 0, 0, 1))),
            (3, ((1, 0, 1), (1, 2, 0, 1))), (97, (least_whole(3, prime=97), least_whole(4, prime=97))),
        ):
            poly = naive.times(*parts_told, prime)
            self.assertIs(is_whole(poly, prime=prime), False)
            turns = [poly_left(X, prime ** (at + 1), poly, prime=prime) for at in range(len(poly) - 1)]
            shows = []
            for by in PRIMES:
                if (len(poly) - 1) % by == 0:
                    less = naive.minus(turns[(len(poly) - 1) // by - 1], X, prime)
                    common, first, second = poly_common(less, poly, prime=prime)
                    self.assertEqual(common, (1,))
                    shows.append((first, second))
            self.assertFalse(self.holds(poly, ("whole", turns, shows), prime))
            self.assertFalse(self.holds(poly, ("whole", turns[:-1] + [X], shows), prime))

    def test_another_form(self):
        whole_told = paper((1, 1, 1))
        word, turns, shows = whole_told
        first, second = shows[0]
        for told in (
            (), (word,), (word, turns), whole_told + ((),), (word, None, shows), (word, turns, None),
            (word, turns, [first]), (word, turns, [(first,)]), (word, turns, [(first, second, ())]),
        ):
            self.assertFalse(self.holds((1, 1, 1), told, 2))
        for told in (("parts", (1, 1)), ("parts", (1, 1), (1, 1), ())):
            self.assertFalse(self.holds((1, 0, 1), told, 2))

    def test_what_is_handed_in_stays(self):
        for poly in ((1, 1, 1), least_whole(6), least_whole(12)):
            word, turns, shows = paper(poly)
            kept = (list(turns), list(shows))
            self.assertTrue(self.holds(poly, (word, turns, shows), 2))
            self.assertEqual((turns, shows), kept)

    def test_refused(self):
        told = ("parts", (1, 1), (1, 1))
        for poly in WRONG + ((), (1,), (4,)):
            with self.assertRaises(BadPoly):
                paper(poly, prime=5)
            with self.assertRaises(BadPoly):
                paper_holds(poly, told, prime=5)
            for prime in NO_PRIMES:
                with self.assertRaises(BadPrime):
                    paper(poly, prime=prime)
                with self.assertRaises(BadPrime):
                    paper_holds(poly, told, prime=prime)


class LeastWhole(unittest.TestCase):
    def test_against_all(self):
        for prime, most in SMALL.items():
            for degree in range(1, most + 1):
                told = least_whole(degree, prime=prime)
                self.assertEqual(told, min(WHOLES[prime][degree]))

    def test_whole_for_every_prime(self):
        for prime in PRIMES:
            for degree in (1, 2, 3, 4, 7, 9, 12):
                told = least_whole(degree, prime=prime)
                self.assertIs(type(told), tuple)
                self.assertEqual((len(told) - 1, told[-1]), (degree, 1))
                self.assertIs(is_whole(told, prime=prime), True)

    def test_none_comes_ahead(self):
        for prime in (2, 3, 17, 41, 73, 97):
            for degree in (2, 3, 6, 12):
                told = least_whole(degree, prime=prime)
                place = 0
                for rest in told[:-1]:
                    place = place * prime + rest
                ahead = prime ** (degree - 1)
                self.assertLess(place - ahead, 20000)
                for at in range(ahead, place):
                    rests = []
                    for _ in range(degree):
                        rests.append(at % prime)
                        at //= prime
                    poly = tuple(rests[::-1]) + (1,)
                    self.assertNotEqual(parts(poly, prime=prime)[1], [(poly, 1)])

    def test_plain_ones(self):
        self.assertEqual(least_whole(1), X)
        self.assertEqual(least_whole(1, prime=97), X)
        self.assertEqual(least_whole(2), (1, 1, 1))
        self.assertEqual(least_whole(3), (1, 0, 1, 1))
        self.assertEqual(least_whole(2, prime=3), (1, 0, 1))

    def test_refused(self):
        for degree in (0, -1, 13, 24, FORTY, -FORTY, True, False):
            with self.assertRaises(BadDegree):
                least_whole(degree, prime=5)
            for prime in NO_PRIMES:
                with self.assertRaises(BadPrime):
                    least_whole(degree, prime=prime)
        for prime in NO_PRIMES:
            with self.assertRaises(BadPrime):
                least_whole(2, prime=prime)


class Interface(unittest.TestCase):
    def test_names_of_what_is_handed_in(self):
        forms = {
            "is_whole": "(poly, *, prime=2)",
            "paper": "(poly, *, prime=2)",
            "paper_holds": "(poly, told, *, prime=2)",
            "least_whole": "(degree, *, prime=2)",
        }
        for name, form in forms.items():
            action = getattr(whole, name)
            self.assertEqual(str(inspect.signature(action)), form)
            self.assertEqual(action.__module__, "rungfields.whole")

    def test_the_prime_by_its_name_alone(self):
        for action in (is_whole, paper):
            with self.assertRaises(TypeError):
                action((1, 1), 5)
        with self.assertRaises(TypeError):
            paper_holds((1, 1), ("parts", (1,), (1,)), 5)
        with self.assertRaises(TypeError):
            least_whole(2, 5)

    def test_handed_in_by_name(self):
        self.assertIs(is_whole(poly=(1, 1, 1)), True)
        self.assertEqual(paper(prime=3, poly=(0, 0, 2)), ("parts", X, (0, 2)))
        self.assertIs(paper_holds(told=("parts", X, (0, 2)), poly=(0, 0, 2), prime=3), True)
        self.assertEqual(least_whole(degree=2, prime=3), (1, 0, 1))


if __name__ == "__main__":
    unittest.main()
