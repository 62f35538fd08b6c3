"""rungfields.towers, own fields and leadings: promises [1], [2], [9], [15] and of [25] equality."""

import inspect
import itertools
import random
import unittest

import naive
from rungfields.errors import BadDegree, BadPrime, NotWithin
from rungfields.fields import Field
from rungfields.leadings import Leading
from rungfields.over import over_value
from rungfields.rests import LEAST, PRIMES
from rungfields.towers import Tower
from rungfields.whole import is_whole, least_whole

SMALL = ((2, 8), (3, 6), (5, 4), (7, 3), (11, 2), (13, 2))
GREAT = ((2, 12), (3, 12), (5, 12), (7, 12), (11, 6), (31, 12), (97, 6), (97, 12))
PAIRS = [(low, high) for low in range(1, 13) for high in range(low, 13) if high % low == 0]
FORTY = 10**39 + 12345
NO_DEGREES = (0, 13, -1, 24, FORTY, -FORTY, True, False, "2", None)


def rows_between(low, high):
    """All rows of degrees from one to another, each dividing the next."""
    if low == high:
        return [[low]]
    return [
        [low] + row
        for middle in range(low + 1, high + 1)
        if middle % low == 0 and high % middle == 0
        for row in rows_between(middle, high)
    ]


def put_together(tower, row):
    """The own leadings along a row of degrees, one behind the other."""
    leading = tower.lead(row[0], row[0])
    for low, high in zip(row, row[1:]):
        leading = leading.then(tower.lead(low, high))
    return leading


def roots_in(field, poly):
    """All roots of a whole polynomial in a field, from one as its turns."""
    one = Tower(prime=field.prime()).lead(len(poly) - 1, len(field)).image()
    return sorted({field.turned(one, steps=steps) for steps in range(len(field))})


class Made(unittest.TestCase):
    def test_prime(self):
        for prime in PRIMES:
            self.assertEqual(Tower(prime=prime).prime(), prime)
            self.assertEqual(repr(Tower(prime=prime)), f"Tower(by {prime})")
        self.assertEqual(Tower().prime(), LEAST)
        self.assertEqual(repr(Tower(prime=7)), "Tower(by 7)")

    def test_bad_prime(self):
        for prime in (0, 1, 4, -2, 99, 101, 91, FORTY):
            with self.assertRaises(BadPrime) as caught:
                Tower(prime=prime)
            self.assertEqual(caught.exception.word, "BadPrime")

    def test_equal(self):
        for one, other in itertools.product(PRIMES, repeat=2):
            first, second = Tower(prime=one), Tower(prime=other)
            first.own(2)
            self.assertIs(first == second, one == other)
            self.assertIs(first != second, one != other)

    def test_equal_whatever_was_asked_for(self):
        asked, fresh = Tower(prime=3), Tower(prime=3)
        asked.lead(4, 12)
        asked.plus((2, (0, 1)), (3, (0, 1, 0)))
        self.assertTrue(asked == fresh)
        self.assertFalse(asked != fresh)

    def test_not_equal_to_other_things(self):
        for other in (2, "Tower(by 2)", None, (), [], Field((0, 1)), True, object()):
            self.assertFalse(Tower() == other)
            self.assertTrue(Tower() != other)
            self.assertFalse(other == Tower())


class Own(unittest.TestCase):
    def test_least_rule_against_all_level_ones(self):
        for prime, most in SMALL:
            rules = naive.own_rules(prime, most)
            for degree in range(1, most + 1):
                own = Tower(prime=prime).own(degree)
                self.assertIsInstance(own, Field)
                self.assertEqual(own.rule(), rules[degree])
                self.assertEqual(own.prime(), prime)

    def test_great_ones(self):
        for prime, degree in GREAT:
            own = Tower(prime=prime).own(degree)
            self.assertEqual(len(own), degree)
            self.assertEqual(own, Field(least_whole(degree, prime=prime), prime=prime))
            # those between 1 + .. and the rule have parts
            tail = own.rule()[-3:-1]
            self.assertEqual(own.rule()[0], 1)
            for other in itertools.product(range(prime), repeat=2):
                if other < tail:
                    self.assertFalse(is_whole(own.rule()[:-3] + other + (1,), prime=prime))

    def test_all_degrees_of_all_primes(self):
        for prime in PRIMES:
            tower = Tower(prime=prime)
            self.assertEqual([len(tower.own(degree)) for degree in range(1, 13)], list(range(1, 13)))
            self.assertEqual(tower.own(1).rule(), (0, 1))

    def test_bad_degree(self):
        for degree in NO_DEGREES:
            with self.assertRaises(BadDegree) as caught:
                Tower().own(degree)
            self.assertEqual(caught.exception.word, "BadDegree")


class Lead(unittest.TestCase):
    def test_images_against_all_numbers(self):
        for prime, most in SMALL:
            tower = Tower(prime=prime)
            for (low, high), image in naive.own_images(prime, most).items():
                leading = tower.lead(low, high)
                self.assertIsInstance(leading, Leading)
                self.assertEqual(leading.image(), image, (prime, low, high))
                self.assertEqual(leading.low(), tower.own(low))
                self.assertEqual(leading.high(), tower.own(high))

    def test_least_root_that_goes_with_all_lesser_ones(self):
        for prime, most in GREAT:
            tower = Tower(prime=prime)
            for low, high in PAIRS:
                if high <= most and low < high:
                    own = tower.own(high)
                    fit = [
                        number for number in roots_in(own, tower.own(low).rule())
                        if self.goes(tower, number, low, own)
                    ]
                    self.assertEqual(tower.lead(low, high).image(), min(fit))

    def goes(self, tower, number, low, own):
        """Whether a root goes with what the tower tells of all lesser degrees."""
        for lesser in range(2, low):
            if low % lesser == 0:
                inside = tuple(own.plain(rest) for rest in tower.lead(lesser, low).image())
                while inside[-1:] == (own.plain(0),):
                    inside = inside[:-1]
                if over_value(own, inside, number) != tower.lead(lesser, len(own)).image():
                    return False
        return True

    def test_some_images_are_not_the_least_root(self):
        # else nothing would show that lesser leadings are looked at
        unlike = 0
        for prime in (2, 3, 5):
            tower = Tower(prime=prime)
            for low, high in PAIRS:
                if low < high:
                    least = roots_in(tower.own(high), tower.own(low).rule())[0]
                    unlike += tower.lead(low, high).image() != least
        self.assertGreater(unlike, 3)

    def test_into_itself(self):
        chance = random.Random(15)
        for prime in (2, 3, 13, 97):
            tower = Tower(prime=prime)
            for degree in range(1, 13):
                leading, own = tower.lead(degree, degree), tower.own(degree)
                for _ in range(5):
                    number = own.nth(chance.randrange(own.size()))
                    self.assertEqual(leading.to(number), number)
                    self.assertEqual(leading.back(number), number)

    def test_every_row_comes_to_the_same(self):
        for prime in (2, 3, 5, 7, 13, 47, 97):
            tower = Tower(prime=prime)
            for low, high in PAIRS:
                once = tower.lead(low, high)
                for row in rows_between(low, high):
                    self.assertEqual(put_together(tower, row), once, row)

    def test_rows_with_a_degree_twice(self):
        tower = Tower(prime=3)
        for row in ((2, 2, 4, 12), (1, 2, 2, 12, 12), (3, 3), (6, 6, 12)):
            self.assertEqual(put_together(tower, row), tower.lead(row[0], row[-1]))

    def test_in_whatever_order_by_one_tower_and_by_two(self):
        for prime in (2, 3, 11, 59):
            first = Tower(prime=prime)
            known = {pair: first.lead(*pair) for pair in PAIRS}
            for seed in range(6):
                pairs = list(PAIRS)
                random.Random(seed).shuffle(pairs)
                tower = Tower(prime=prime)
                for pair in pairs[: 5 + 5 * seed]:
                    self.assertEqual(tower.lead(*pair), known[pair])
            for pair in PAIRS:
                self.assertEqual(Tower(prime=prime).lead(*pair), known[pair])
                self.assertEqual(first.lead(*pair), known[pair])

    def test_numbers_led_by_rows(self):
        chance = random.Random(115)
        for prime in (2, 5, 97):
            one, other = Tower(prime=prime), Tower(prime=prime)
            for low, high in ((1, 12), (2, 12), (3, 12), (2, 8)):
                own = one.own(low)
                for row in rows_between(low, high):
                    number = own.nth(chance.randrange(own.size()))
                    led = number
                    for first, second in zip(row, row[1:]):
                        led = other.lead(first, second).to(led)
                    self.assertEqual(led, one.lead(low, high).to(number))

    def test_bad_degree_ahead_of_not_within(self):
        for degree in NO_DEGREES:
            for low, high in ((degree, 12), (12, degree), (5, degree), (degree, 5), (degree, degree)):
                with self.assertRaises(BadDegree) as caught:
                    Tower(prime=5).lead(low, high)
                self.assertEqual(caught.exception.word, "BadDegree")

    def test_not_within(self):
        tower = Tower(prime=7)
        for low, high in itertools.product(range(1, 13), repeat=2):
            if high % low == 0:
                self.assertEqual(len(tower.lead(low, high)), low)
            else:
                with self.assertRaises(NotWithin) as caught:
                    tower.lead(low, high)
                self.assertEqual(caught.exception.word, "NotWithin")


class Interface(unittest.TestCase):
    FORMS = {
        "prime": "(self)", "own": "(self, degree)", "lead": "(self, low, high)", "home": "(self, number)",
        "raised": "(self, number, degree)", "alike": "(self, one, other)", "plus": "(self, one, other)",
        "minus": "(self, one, other)", "times": "(self, one, other)", "over": "(self, one, other)",
        "undone": "(self, number)", "power": "(self, number, exponent)", "turned": "(self, number, *, steps=1)",
        "trace": "(self, number, *, low=1)", "norm": "(self, number, *, low=1)", "least": "(self, number)",
        "splits": "(self, poly)", "roots": "(self, poly)", "parts": "(self, poly, degree)",
    }

    def test_names_of_what_is_handed_in(self):
        self.assertEqual(str(inspect.signature(Tower)), "(*, prime=2)")
        self.assertEqual(Tower.__module__, "rungfields.towers")
        for name, form in self.FORMS.items():
            self.assertEqual(str(inspect.signature(vars(Tower)[name])), form)
        for name in ("__repr__", "__eq__"):
            self.assertIn(name, vars(Tower))

    def test_handed_in_by_name(self):
        tower = Tower(prime=3)
        one, other = (2, (1, 1)), (1, (2,))
        self.assertEqual(len(tower.own(degree=4)), 4)
        self.assertEqual(repr(tower.lead(high=4, low=2)), "Leading(2 to 4)")
        self.assertEqual(tower.home(number=one), one)
        self.assertEqual(tower.raised(degree=2, number=other), (2, (2, 0)))
        self.assertIs(tower.alike(other=one, one=one), True)
        self.assertEqual(tower.plus(other=one, one=other), (2, (0, 1)))
        self.assertEqual(tower.minus(other=other, one=one), (2, (2, 1)))
        self.assertEqual(tower.times(other=other, one=one), (2, (2, 2)))
        self.assertEqual(tower.over(other=other, one=one), (2, (2, 2)))
        self.assertEqual(tower.undone(number=other), other)
        self.assertEqual(tower.power(exponent=3, number=other), other)
        self.assertEqual(tower.turned(steps=2, number=one), one)
        self.assertEqual(tower.trace(low=2, number=one), one)
        self.assertEqual(tower.norm(low=2, number=one), one)
        self.assertEqual(tower.least(number=other), (1, 1))
        self.assertEqual(tower.splits(poly=(1, 0, 1)), 2)
        self.assertEqual(tower.roots(poly=(1, 1)), [((1, (2,)), 1)])
        self.assertEqual(tower.parts(degree=1, poly=(1, 0, 1)), [(((1,), (0,), (1,)), 1)])


if __name__ == "__main__":
    unittest.main()
