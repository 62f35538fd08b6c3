"""rungfields.towers, numbers as pairs: promises [1], [2], [16] and [17]."""

import itertools
import math
import random
import unittest

import naive
from rungfields.errors import BadDegree, BadNumber, NoInverse, NotWithin, TooTall
from rungfields.polys import poly_value
from rungfields.towers import Tower
from rungfields.whole import is_whole

FORTY = 10**39 + 12345
DEGREES = range(1, 13)
BAD_PAIRS = [
    (BadDegree, (0, ())), (BadDegree, (13, (0,) * 13)), (BadDegree, (-2, (0, 0))), (BadDegree, (True, (0,))),
    (BadDegree, (False, ())), (BadDegree, (FORTY, (0, 0))), (BadDegree, (0, (0, 0))), (BadDegree, (14, ())),
    (BadNumber, (2, (0,))), (BadNumber, (2, (0, 0, 0))), (BadNumber, (2, ())), (BadNumber, (2, (0, 5))),
    (BadNumber, (2, (-1, 0))), (BadNumber, (2, (0, True))), (BadNumber, (1, (False,))), (BadNumber, (1, (FORTY,))),
    (BadNumber, (12, (4,) * 11 + (5,))), (BadNumber, (12, (4,) * 13)),
]


def all_pairs(tower, most):
    """All pairs of degrees to one."""
    return [
        (degree, tower.own(degree).nth(at))
        for degree in range(1, most + 1)
        for at in range(tower.own(degree).size())
    ]


def some_pair(tower, degree, chance):
    own = tower.own(degree)
    return degree, own.nth(chance.randrange(own.size()))


def exact_pair(tower, degree, chance):
    """A pair that is at home in a degree."""
    pair = some_pair(tower, degree, chance)
    while tower.home(pair)[0] != degree:
        pair = some_pair(tower, degree, chance)
    return pair


def searched_home(tower, pair):
    """The home, by leading all numbers of the lesser fields."""
    degree, number = pair
    for low in range(1, degree + 1):
        if degree % low == 0:
            own, leading = tower.own(low), tower.lead(low, degree)
            for at in range(own.size()):
                if leading.to(own.nth(at)) == number:
                    return low, own.nth(at)
    return None


class Case(unittest.TestCase):
    def refused(self, error, action, *told, **more):
        with self.assertRaises(error) as caught:
            action(*told, **more)
        self.assertEqual(caught.exception.word, error.__name__)
        return caught.exception


class Homes(Case):
    def test_against_all_numbers_of_lesser_fields(self):
        for prime, most in ((2, 6), (3, 4), (5, 3), (13, 2)):
            tower = Tower(prime=prime)
            for pair in all_pairs(tower, most):
                self.assertEqual(tower.home(pair), searched_home(tower, pair))

    def test_of_raised_ones(self):
        chance = random.Random(16)
        for prime in (2, 3, 7, 53, 97):
            tower = Tower(prime=prime)
            for low in DEGREES:
                pair = exact_pair(tower, low, chance)
                self.assertEqual(tower.home(pair), pair)
                for high in range(low, 13, low):
                    raised = tower.raised(pair, high)
                    self.assertEqual(raised, (high, tower.lead(low, high).to(pair[1])))
                    self.assertEqual(tower.home(raised), pair)
                    self.assertEqual(tower.raised(raised, low), pair)
                    self.assertIs(tower.alike(raised, pair), True)

    def test_raised_between_degrees_neither_of_which_divides(self):
        chance = random.Random(17)
        for prime in (2, 11):
            tower = Tower(prime=prime)
            for first, second in ((4, 6), (6, 9), (8, 12), (10, 4), (9, 12), (7, 5)):
                pair = exact_pair(tower, math.gcd(first, second), chance)
                raised = tower.raised(pair, first)
                self.assertEqual(tower.raised(raised, second), tower.raised(pair, second))
                self.assertIs(tower.alike(raised, tower.raised(pair, second)), True)

    def test_rests_are_at_home_in_degree_one(self):
        for prime in (2, 3, 97):
            tower = Tower(prime=prime)
            for degree, rest in itertools.product(DEGREES, (0, 1, prime - 1)):
                self.assertEqual(tower.home((degree, (rest,) + (0,) * (degree - 1))), (1, (rest,)))

    def test_alike_just_where_homes_are_the_same(self):
        for prime, most in ((2, 5), (3, 3)):
            tower = Tower(prime=prime)
            homes = [(pair, searched_home(tower, pair)) for pair in all_pairs(tower, most)]
            for (one, first), (other, second) in itertools.product(homes, repeat=2):
                self.assertIs(tower.alike(one, other), first == second)

    def test_alike_where_no_field_has_both(self):
        tower = Tower(prime=3)
        self.assertIs(tower.alike((10, (2,) + (0,) * 9), (12, (2,) + (0,) * 11)), True)
        self.assertIs(tower.alike((10, (2,) + (0,) * 9), (12, (1,) + (0,) * 11)), False)
        two = (2, (0, 1))
        self.assertIs(tower.alike(tower.raised(two, 10), tower.raised(two, 12)), True)
        self.assertIs(tower.alike((7, (0, 1) + (0,) * 5), (11, (0, 1) + (0,) * 9)), False)

    def test_not_within(self):
        chance = random.Random(18)
        tower = Tower(prime=3)
        for low, high in itertools.product(DEGREES, repeat=2):
            pair = exact_pair(tower, low, chance)
            if high % low != 0:
                self.refused(NotWithin, tower.raised, pair, high)
                for above in range(2 * low, 13, low):
                    self.refused(NotWithin, tower.raised, tower.raised(pair, above), high)

    def test_bad_degree_to_raise_to(self):
        tower = Tower(prime=5)
        for degree in (0, 13, -1, True, FORTY):
            self.refused(BadDegree, tower.raised, (2, (0, 1)), degree)
            self.refused(BadDegree, tower.raised, (1, (0,)), degree)
            self.refused(BadNumber, tower.raised, (2, (0,)), degree)


class Sums(Case):
    ACTIONS = ("plus", "minus", "times", "over")

    def test_against_the_common_field(self):
        chance = random.Random(19)
        for prime in (2, 3, 5, 97):
            tower = Tower(prime=prime)
            for low, high in itertools.product(DEGREES, repeat=2):
                degree = math.lcm(low, high)
                if degree <= 12:
                    one, other = exact_pair(tower, low, chance), some_pair(tower, high, chance)
                    self.check(tower, degree, one, other)

    def check(self, tower, degree, one, other):
        own = tower.own(degree)
        first, second = tower.raised(one, degree)[1], tower.raised(other, degree)[1]
        self.assertEqual(tower.plus(one, other), tower.home((degree, own.plus(first, second))))
        self.assertEqual(tower.minus(one, other), tower.home((degree, own.minus(first, second))))
        self.assertEqual(tower.times(one, other), tower.home((degree, own.times(first, second))))
        if second == own.plain(0):
            self.refused(NoInverse, tower.over, one, other)
        else:
            quotient = own.times(first, own.undone(second))
            self.assertEqual(tower.over(one, other), tower.home((degree, quotient)))

    def test_all_pairs_of_small_fields(self):
        for prime, most in ((2, 4), (3, 2)):
            tower = Tower(prime=prime)
            for one, other in itertools.product(all_pairs(tower, most), repeat=2):
                degree = math.lcm(one[0], other[0])
                self.check(tower, degree, one, other)

    def test_by_plain_numbers(self):
        tower = Tower(prime=7)
        for first, second in itertools.product(range(7), repeat=2):
            one, other = (1, (first,)), (6, (second, 0, 0, 0, 0, 0))
            self.assertEqual(tower.plus(one, other), (1, ((first + second) % 7,)))
            self.assertEqual(tower.minus(one, other), (1, ((first - second) % 7,)))
            self.assertEqual(tower.times(one, other), (1, (first * second % 7,)))

    def test_in_whatever_field_a_number_stands(self):
        chance = random.Random(20)
        for prime in (2, 5, 41):
            tower = Tower(prime=prime)
            for low, high in ((2, 3), (1, 4), (2, 2), (4, 6), (5, 1), (3, 3)):
                one, other = exact_pair(tower, low, chance), (1, (0,))
                while other == (1, (0,)):
                    other = exact_pair(tower, high, chance)
                for first, second in itertools.product(range(low, 13, low), range(high, 13, high)):
                    raised = tower.raised(one, first), tower.raised(other, second)
                    for name in self.ACTIONS:
                        action = getattr(tower, name)
                        self.assertEqual(action(*raised), action(one, other))

    def test_laws(self):
        chance = random.Random(21)
        for prime in (2, 3, 13, 97):
            tower = Tower(prime=prime)
            for degrees in ((2, 3, 4), (1, 6, 4), (5, 2, 10), (3, 3, 9), (8, 4, 2), (12, 6, 3), (7, 1, 7), (11, 11, 1)):
                one, two, three = [some_pair(tower, degree, chance) for degree in degrees]
                plus, times = tower.plus, tower.times
                self.assertEqual(plus(one, two), plus(two, one))
                self.assertEqual(times(one, two), times(two, one))
                self.assertEqual(plus(plus(one, two), three), plus(one, plus(two, three)))
                self.assertEqual(times(times(one, two), three), times(one, times(two, three)))
                self.assertEqual(times(one, plus(two, three)), plus(times(one, two), times(one, three)))
                self.assertEqual(tower.minus(plus(one, two), two), tower.home(one))
                self.assertEqual(tower.minus(one, one), (1, (0,)))
                if tower.home(two) != (1, (0,)):
                    self.assertEqual(tower.over(times(one, two), two), tower.home(one))
                    self.assertEqual(times(two, tower.undone(two)), (1, (1,)))

    def test_too_tall(self):
        chance = random.Random(22)
        for prime in (2, 3, 97):
            tower = Tower(prime=prime)
            for low, high in itertools.product(DEGREES, repeat=2):
                tall = math.lcm(low, high)
                if tall > 12:
                    one, other = exact_pair(tower, low, chance), exact_pair(tower, high, chance)
                    for name in self.ACTIONS:
                        error = self.refused(TooTall, getattr(tower, name), one, other)
                        self.assertEqual(error.tall, tall)

    def test_too_tall_by_homes(self):
        tower = Tower(prime=2)
        one, other = tower.raised((2, (0, 1)), 10), tower.raised((3, (0, 1, 0)), 9)
        self.assertEqual(tower.plus(one, other)[0], 6)
        other = tower.raised((5, (0, 1, 0, 0, 0)), 10)
        third = tower.raised((3, (0, 1, 0)), 12)
        for name in self.ACTIONS:
            self.assertEqual(self.refused(TooTall, getattr(tower, name), other, third).tall, 15)

    def test_no_inverse(self):
        tower = Tower(prime=3)
        for degree, other in itertools.product(DEGREES, (1, 5, 7, 11, 12)):
            one = (degree, (0, 1) + (0,) * (degree - 2)) if degree > 1 else (1, (2,))
            self.refused(NoInverse, tower.over, one, (other, (0,) * other))
            self.refused(NoInverse, tower.undone, (other, (0,) * other))
        self.assertEqual(tower.over((7, (0,) * 7), (12, (2,) + (0,) * 11)), (1, (0,)))

    def test_undone(self):
        chance = random.Random(23)
        for prime in (2, 3, 89):
            tower = Tower(prime=prime)
            for degree in DEGREES:
                pair = exact_pair(tower, degree, chance)
                if pair != (1, (0,)):
                    inverse = tower.undone(pair)
                    self.assertEqual(inverse, (degree, tower.own(degree).undone(pair[1])))
                    for high in range(degree, 13, degree):
                        self.assertEqual(tower.undone(tower.raised(pair, high)), inverse)


class Powers(Case):
    def test_small_ones_by_times(self):
        chance = random.Random(24)
        for prime in (2, 3, 31):
            tower = Tower(prime=prime)
            for degree in DEGREES:
                pair = some_pair(tower, degree, chance)
                told = (1, (1,))
                for exponent in range(12):
                    self.assertEqual(tower.power(pair, exponent), told)
                    if told != (1, (0,)):
                        self.assertEqual(tower.power(pair, -exponent) if exponent else told, tower.undone(told))
                    told = tower.times(told, pair)

    def test_forty_figures_on_both_sides_of_nought(self):
        chance = random.Random(25)
        for prime in (2, 5, 97):
            tower = Tower(prime=prime)
            for degree in DEGREES:
                pair = exact_pair(tower, degree, chance)
                if pair == (1, (0,)):
                    continue
                great = chance.randrange(10**38, 10**40)
                raised = tower.raised(pair, 12 if 12 % degree == 0 else degree)
                known = tower.home((degree, self.slow_power(tower.own(degree), pair[1], great)))
                self.assertEqual(tower.power(pair, great), known)
                self.assertEqual(tower.power(raised, great), known)
                self.assertEqual(tower.power(raised, -great), tower.undone(known))
                self.assertEqual(tower.power(pair, great + 7), tower.times(known, tower.power(pair, 7)))
                self.assertEqual(tower.power(pair, 1 - great), tower.over(pair, known))

    def slow_power(self, own, number, exponent):
        """A power by the figures of its exponent in twos, from the greatest."""
        told = own.plain(1)
        for figure in f"{exponent:b}":
            told = own.times(told, told)
            if figure == "1":
                told = own.times(told, number)
        return told

    def test_of_nought(self):
        tower = Tower(prime=5)
        for degree in DEGREES:
            nought = (degree, (0,) * degree)
            self.assertEqual(tower.power(nought, 0), (1, (1,)))
            self.assertEqual(tower.power(nought, 1), (1, (0,)))
            self.assertEqual(tower.power(nought, FORTY), (1, (0,)))
            self.refused(NoInverse, tower.power, nought, -1)
            self.refused(NoInverse, tower.power, nought, -FORTY)

    def test_a_power_may_be_at_home_lower(self):
        tower = Tower(prime=2)
        pair = (4, (0, 1, 0, 0))
        self.assertEqual([tower.power(pair, at)[0] for at in (1, 3, 5, 10, 15, -5)], [4, 4, 2, 2, 1, 2])

    def test_exponents_that_are_no_numbers(self):
        tower = Tower(prime=5)
        for exponent in (True, False):
            self.refused(BadNumber, tower.power, (2, (0, 1)), exponent)
            self.refused(BadNumber, tower.turned, (2, (0, 1)), steps=exponent)


class Turns(Case):
    def test_forwards_and_back(self):
        chance = random.Random(26)
        for prime in (2, 3, 61):
            tower = Tower(prime=prime)
            for degree in DEGREES:
                pair = exact_pair(tower, degree, chance)
                self.assertEqual(tower.turned(pair), tower.power(pair, prime))
                turned = pair
                for steps in range(degree + 2):
                    self.assertEqual(tower.turned(pair, steps=steps), turned)
                    self.assertEqual(tower.turned(turned, steps=-steps), pair)
                    turned = tower.power(turned, prime)
                self.assertEqual(tower.turned(pair, steps=degree * 10**37 + 1), tower.turned(pair))
                self.assertEqual(tower.turned(pair, steps=-degree * 10**37 - 1), tower.turned(pair, steps=-1))

    def test_of_raised_ones(self):
        chance = random.Random(27)
        tower = Tower(prime=3)
        for degree, high in ((2, 4), (2, 6), (3, 12), (4, 12), (5, 10), (1, 8)):
            pair = exact_pair(tower, degree, chance)
            for steps in (-5, -1, 0, 1, 2, 7, 12):
                self.assertEqual(
                    tower.turned(tower.raised(pair, high), steps=steps), tower.turned(pair, steps=steps)
                )

    def test_turning_goes_with_sums_and_products(self):
        chance = random.Random(28)
        tower = Tower(prime=7)
        for low, high in ((2, 3), (4, 6), (3, 12), (5, 2)):
            one, other = some_pair(tower, low, chance), some_pair(tower, high, chance)
            for action in (tower.plus, tower.times):
                self.assertEqual(
                    tower.turned(action(one, other), steps=5),
                    action(tower.turned(one, steps=5), tower.turned(other, steps=5)),
                )


class Traces(Case):
    def test_over_each_degree_by_sums_of_turns(self):
        chance = random.Random(29)
        for prime in (2, 3, 97):
            tower = Tower(prime=prime)
            for degree in DEGREES:
                pair = some_pair(tower, degree, chance)
                for low in range(1, degree + 1):
                    if degree % low == 0:
                        self.check(tower, pair, low)

    def check(self, tower, pair, low):
        total, product = (1, (0,)), (1, (1,))
        for at in range(pair[0] // low):
            turned = tower.turned(pair, steps=at * low)
            total, product = tower.plus(total, turned), tower.times(product, turned)
        self.assertEqual(tower.trace(pair, low=low), total)
        self.assertEqual(tower.norm(pair, low=low), product)
        self.assertEqual(low % total[0], 0)
        self.assertEqual(low % product[0], 0)

    def test_by_steps_and_at_once(self):
        chance = random.Random(30)
        for prime in (2, 5):
            tower = Tower(prime=prime)
            for low, middle, high in ((1, 2, 4), (2, 4, 8), (1, 3, 12), (2, 6, 12), (3, 6, 12), (1, 5, 10), (3, 3, 9)):
                pair = some_pair(tower, high, chance)
                for action in (tower.trace, tower.norm):
                    step = tower.raised(action(pair, low=middle), middle)
                    self.assertEqual(action(step, low=low), action(pair, low=low))

    def test_low_left_out(self):
        chance = random.Random(31)
        for prime in (2, 7):
            tower = Tower(prime=prime)
            for degree in DEGREES:
                pair = some_pair(tower, degree, chance)
                own = tower.own(degree)
                self.assertEqual(tower.trace(pair), (1, (own.trace(pair[1]),)))
                self.assertEqual(tower.norm(pair), (1, (own.norm(pair[1]),)))
                self.assertEqual(tower.trace(pair), tower.trace(pair, low=1))
                self.assertEqual(tower.norm(pair), tower.norm(pair, low=1))

    def test_over_the_degree_that_it_is_handed_with(self):
        tower = Tower(prime=5)
        pair = (2, (1, 1))
        self.assertEqual(tower.trace(pair, low=2), pair)
        self.assertEqual(tower.norm(pair, low=2), pair)
        raised = tower.raised(pair, 6)
        self.assertEqual(tower.trace(raised, low=6), pair)
        # three turns by 2 leave it as it is
        self.assertEqual(tower.trace(raised, low=2), tower.times((1, (3,)), pair))
        self.assertEqual(tower.norm(raised, low=2), tower.power(pair, 3))
        self.assertEqual(tower.trace(raised, low=3), tower.plus(pair, tower.turned(pair)))

    def test_bad_low(self):
        tower = Tower(prime=5)
        for action in (tower.trace, tower.norm):
            for low in (0, 13, -1, True, False, FORTY):
                self.refused(BadDegree, action, (2, (0, 1)), low=low)
                self.refused(BadNumber, action, (2, (0,)), low=low)
            for degree, low in itertools.product(DEGREES, repeat=2):
                if degree % low != 0:
                    self.refused(NotWithin, action, (degree, (1,) * degree), low=low)
            self.refused(NotWithin, action, (2, (1, 0)), low=4)


class Least(Case):
    def test_root_of_a_whole_one_of_its_degree(self):
        chance = random.Random(32)
        for prime in (2, 3, 97):
            tower = Tower(prime=prime)
            for degree in DEGREES:
                pair = exact_pair(tower, degree, chance)
                least = tower.least(pair)
                self.assertEqual(len(least), degree + 1)
                self.assertEqual(least[-1], 1)
                self.assertIs(is_whole(least, prime=prime), True)
                value = (1, (0,))
                for rest in reversed(least):
                    value = tower.plus(tower.times(value, pair), (1, (rest,)))
                self.assertEqual(value, (1, (0,)))
                for high in range(degree, 13, degree):
                    self.assertEqual(tower.least(tower.raised(pair, high)), least)

    def test_of_rests_and_of_x(self):
        for prime in (2, 5):
            tower = Tower(prime=prime)
            for rest in range(prime):
                self.assertEqual(poly_value(tower.least((4, (rest, 0, 0, 0))), rest, prime=prime), 0)
                self.assertEqual(tower.least((1, (rest,))), (-rest % prime, 1))
            for degree in range(2, 13):
                x = (degree, (0, 1) + (0,) * (degree - 2))
                self.assertEqual(tower.least(x), tower.own(degree).rule())

    def test_against_all_polynomials(self):
        tower = Tower(prime=2)
        wholes = naive.sieve(2, 4)
        known = naive.Numbers(tower.own(4).rule(), 2)
        for number in known.all:
            fit = [
                poly for degree in sorted(wholes) for poly in wholes[degree]
                if known.value(poly, number) == known.nought
            ]
            self.assertEqual([tower.least((4, number))], fit)


class Doors(Case):
    GOOD = (2, (0, 1))

    def test_of_one_pair(self):
        tower = Tower(prime=5)
        for error, bad in BAD_PAIRS:
            for name in ("home", "undone", "turned", "trace", "norm", "least"):
                self.refused(error, getattr(tower, name), bad)
            self.refused(error, tower.raised, bad, 0)
            self.refused(error, tower.raised, bad, 5)
            self.refused(error, tower.power, bad, True)
            self.refused(error, tower.power, bad, -1)
            self.refused(error, tower.turned, bad, steps=True)
            self.refused(error, tower.trace, bad, low=0)
            self.refused(error, tower.norm, bad, low=12)

    def test_of_two_pairs(self):
        tower = Tower(prime=5)
        for name in ("alike", "plus", "minus", "times", "over"):
            action = getattr(tower, name)
            for error, bad in BAD_PAIRS:
                self.refused(error, action, bad, self.GOOD)
                self.refused(error, action, self.GOOD, bad)
                self.refused(error, action, bad, (3, (0, 0, 0)))
            for (error, bad), (_, other) in itertools.product(BAD_PAIRS, repeat=2):
                self.refused(error, action, bad, other)

    def test_no_pair(self):
        tower = Tower(prime=5)
        for bad in ((), (2,), ((0, 1),), (2, (0, 1), 0), 2):
            self.refused(BadDegree, tower.home, bad)
            self.refused(BadDegree, tower.plus, self.GOOD, bad)

    def test_a_bad_first_one_ahead_of_no_inverse(self):
        tower = Tower(prime=5)
        for error, bad in BAD_PAIRS:
            self.refused(error, tower.over, bad, (1, (0,)))

    def test_questions_change_nothing(self):
        tower = Tower(prime=5)
        known = tower.plus((2, (1, 1)), (3, (1, 1, 1)))
        for error, bad in BAD_PAIRS:
            self.refused(error, tower.plus, (2, (1, 1)), bad)
        self.refused(TooTall, tower.plus, (5, (0, 1, 0, 0, 0)), (3, (0, 1, 0)))
        self.assertEqual(tower.plus((2, (1, 1)), (3, (1, 1, 1))), known)


if __name__ == "__main__":
    unittest.main()
