"""rungfields.over: promises [2] and [13]."""

import inspect
import itertools
import random
import unittest

from rungfields import over
from rungfields.errors import BadNumber, NoInverse
from rungfields.fields import Field
from rungfields.over import built, over_common, over_parted, over_plus, over_times, over_value
from rungfields.whole import least_whole

FORTY = 10**39 + 12345
RULES = [(2, (1, 1)), (2, (1, 1, 1)), (2, (1, 1, 0, 1)), (3, (0, 1)), (3, (2, 1, 1)), (5, (2, 0, 1)), (7, (3, 1))]
SMALL = [Field(rule, prime=prime) for prime, rule in RULES]
GREAT = [
    Field(least_whole(degree, prime=prime), prime=prime)
    for prime, degree in ((2, 12), (3, 7), (13, 4), (97, 12), (97, 1))
]
FIELDS = SMALL + GREAT


class Known:
    """Polynomials over a field by plain sums, with the field's own numbers."""

    def __init__(self, field):
        self.field = field
        self.nought = field.plain(0)
        self.unit = field.plain(1)

    def cut(self, numbers):
        numbers = list(numbers)
        while numbers and numbers[-1] == self.nought:
            numbers.pop()
        return tuple(numbers)

    def plus(self, one, other):
        pairs = itertools.zip_longest(one, other, fillvalue=self.nought)
        return self.cut([self.field.plus(first, second) for first, second in pairs])

    def times(self, one, other):
        sums = [self.nought] * (len(one) + len(other) + 1)
        for (low, first), (high, second) in itertools.product(enumerate(one), enumerate(other)):
            sums[low + high] = self.field.plus(sums[low + high], self.field.times(first, second))
        return self.cut(sums)

    def value(self, one, number):
        total = self.nought
        for place, own in enumerate(one):
            total = self.field.plus(total, self.field.times(own, self.field.power(number, place)))
        return total

    def negative(self, number):
        return self.field.minus(self.nought, number)


def some_polys(field, counts, many=2):
    """Some polynomials over a field, nought and one among them, the same in each run."""
    chance = random.Random(f"{field!r} {counts}")

    def number():
        return tuple(chance.randrange(field.prime()) for _ in range(len(field)))

    def last():
        told = number()
        while not any(told):
            told = number()
        return told

    yield ()
    yield (field.plain(1),)
    for count in counts:
        for _ in range(many):
            yield tuple(number() for _ in range(count - 1)) + (last(),)


def forms(poly):
    """A polynomial as it may be handed in."""
    return (poly, list(poly))


class Case(unittest.TestCase):
    def check_form(self, field, poly):
        """That something is a polynomial over a field, told."""
        self.assertIs(type(poly), tuple)
        for number in poly:
            self.assertIs(type(number), tuple)
            self.assertEqual(field.nth(field.place(number)), number)
        if poly:
            self.assertTrue(any(poly[-1]))


class Sums(Case):
    def test_plus_and_times(self):
        for field in FIELDS:
            known = Known(field)
            for one, other in itertools.product(some_polys(field, (1, 2, 4)), repeat=2):
                total, product = known.plus(one, other), known.times(one, other)
                for first, second in itertools.product(forms(one), forms(other)):
                    self.assertEqual(over_plus(field, first, second), total)
                    self.assertEqual(over_times(field, first, second), product)
                self.check_form(field, over_plus(field, list(one), list(other)))
                self.check_form(field, over_times(field, list(one), list(other)))

    def test_long_ones(self):
        for field in (SMALL[1], SMALL[5], GREAT[3]):
            known = Known(field)
            for one, other in itertools.product(some_polys(field, (13, 25), many=1), repeat=2):
                self.assertEqual(over_plus(field, one, other), known.plus(one, other))
                self.assertEqual(over_times(field, one, other), known.times(one, other))

    def test_all_small_ones(self):
        field = SMALL[1]
        known = Known(field)
        numbers = [field.nth(at) for at in range(field.size())]
        polys = [()] + [poly for count in (1, 2) for poly in itertools.product(numbers, repeat=count) if any(poly[-1])]
        for one, other in itertools.product(polys, repeat=2):
            self.assertEqual(over_plus(field, one, other), known.plus(one, other))
            self.assertEqual(over_times(field, one, other), known.times(one, other))

    def test_sums_that_lose_their_last_numbers(self):
        for field in FIELDS:
            known = Known(field)
            for one in some_polys(field, (1, 2, 5)):
                negative = tuple(known.negative(number) for number in one)
                self.assertEqual(over_plus(field, one, negative), ())
                self.assertEqual(over_plus(field, list(one), list(negative)), ())
                if len(one) == 5:
                    other = (known.unit,) + tuple(map(known.negative, one[1:]))
                    self.assertEqual(len(over_plus(field, one, other)), 0 if one[0] == known.negative(known.unit) else 1)
                    other = one[:2] + tuple(map(known.negative, one[2:]))
                    self.assertEqual(over_plus(field, one, other), known.plus(one[:2], one[:2]))

    def test_nought(self):
        for field in FIELDS:
            for one in some_polys(field, (1, 3)):
                for nought in ((), []):
                    self.assertEqual(over_plus(field, one, nought), one)
                    self.assertEqual(over_plus(field, nought, list(one)), one)
                    self.assertEqual(over_times(field, one, nought), ())
                    self.assertEqual(over_times(field, nought, list(one)), ())


class Parted(Case):
    def test_quotient_and_rest_make_it_again(self):
        for field in FIELDS:
            known = Known(field)
            for one, other in itertools.product(some_polys(field, (1, 2, 3, 7)), repeat=2):
                if other == ():
                    continue
                told = over_parted(field, one, other)
                self.assertIs(type(told), tuple)
                quotient, rest = told
                self.check_form(field, quotient)
                self.check_form(field, rest)
                self.assertEqual(known.plus(known.times(quotient, other), rest), one)
                self.assertLess(len(rest), len(other))
                self.assertEqual(over_parted(field, list(one), list(other)), told)

    def test_of_products(self):
        for field in FIELDS:
            known = Known(field)
            for one, other in itertools.product(some_polys(field, (2, 4)), repeat=2):
                if other != ():
                    self.assertEqual(over_parted(field, known.times(one, other), other), (one, ()))

    def test_by_nought(self):
        for field in FIELDS:
            for one, nought in itertools.product(some_polys(field, (1, 3)), ((), [])):
                with self.assertRaises(NoInverse):
                    over_parted(field, one, nought)


class Common(Case):
    def test_it_parts_both(self):
        for field in FIELDS:
            for one, other in itertools.product(some_polys(field, (1, 2, 4)), repeat=2):
                told = over_common(field, one, other)
                self.check_form(field, told)
                self.assertEqual(over_common(field, list(one), list(other)), told)
                self.assertEqual(over_common(field, other, one), told)
                if one == other == ():
                    self.assertEqual(told, ())
                    continue
                self.assertEqual(told[-1], field.plain(1))
                self.assertEqual(over_parted(field, one, told)[1], ())
                self.assertEqual(over_parted(field, other, told)[1], ())

    def test_there_is_no_greater_one(self):
        field = SMALL[1]
        known = Known(field)
        numbers = [field.nth(at) for at in range(field.size())]
        levels = [low + (known.unit,) for count in range(4) for low in itertools.product(numbers, repeat=count)]
        for one, other in itertools.product(some_polys(field, (2, 3, 4)), repeat=2):
            if one == other == ():
                continue
            both = [
                level for level in levels
                if over_parted(field, one, level)[1] == () == over_parted(field, other, level)[1]
            ]
            self.assertEqual(over_common(field, one, other), max(both, key=len))

    def test_common_roots(self):
        chance = random.Random("common")
        for field in (SMALL[2], SMALL[4], SMALL[5], GREAT[0], GREAT[3]):
            first, second, third = [field.nth(at) for at in chance.sample(range(min(field.size(), 10**9)), 3)]
            for one, other, wanted in (
                ([first, first, second], [first, first, third], [first, first]),
                ([first, first, first], [first, first], [first, first]),
                ([first, second], [third], []),
                ([first, second, third], [third, first], [first, third]),
                ([first, first, second, second], [second, first, second], [first, second, second]),
            ):
                scale = (field.nth(field.size() - 1),)
                one = over_times(field, built(field, one), scale)
                other = built(field, other)
                self.assertEqual(over_common(field, one, other), built(field, wanted))

    def test_nought(self):
        for field in FIELDS:
            for nought in ((), []):
                self.assertEqual(over_common(field, nought, nought), ())
                for one in some_polys(field, (1, 3)):
                    if one == ():
                        continue
                    level = over_times(field, one, (field.undone(one[-1]),))
                    self.assertEqual(over_common(field, one, nought), level)
                    self.assertEqual(over_common(field, nought, list(one)), level)


class Value(Case):
    def test_against_the_sum_written_out(self):
        for field in FIELDS:
            known = Known(field)
            numbers = [field.nth(at) for at in (0, 1, field.size() // 2, field.size() - 1)]
            for one, number in itertools.product(some_polys(field, (1, 2, 6)), numbers):
                wanted = known.value(one, number)
                self.assertEqual(over_value(field, one, number), wanted)
                self.assertEqual(over_value(field, list(one), number), wanted)

    def test_nought(self):
        for field in FIELDS:
            self.assertEqual(over_value(field, (), field.plain(1)), field.plain(0))
            self.assertEqual(over_value(field, [], field.plain(0)), field.plain(0))


class Built(Case):
    def test_no_root(self):
        for field in FIELDS:
            self.assertEqual(built(field, ()), (field.plain(1),))
            self.assertEqual(built(field, []), (field.plain(1),))

    def test_one_root(self):
        for field in FIELDS:
            known = Known(field)
            for at in (0, 1, field.size() - 1):
                number = field.nth(at)
                wanted = (known.negative(number), known.unit)
                self.assertEqual(built(field, (number,)), wanted)
                self.assertEqual(built(field, [number]), wanted)

    def test_several_roots(self):
        chance = random.Random("built")
        for field in FIELDS:
            known = Known(field)
            for count in (2, 3, 6):
                roots = [field.nth(chance.randrange(field.size())) for _ in range(count)]
                roots += roots[:1]
                wanted = (known.unit,)
                for number in roots:
                    wanted = known.times(wanted, (known.negative(number), known.unit))
                self.assertEqual(built(field, roots), wanted)
                self.assertEqual(built(field, tuple(roots)), wanted)
                self.assertEqual(built(field, roots[::-1]), wanted)
                for number in roots:
                    self.assertEqual(over_value(field, wanted, number), known.nought)

    def test_a_root_told_twice(self):
        for field in FIELDS:
            known = Known(field)
            for at in (0, field.size() - 1):
                number = field.nth(at)
                square = known.times((known.negative(number), known.unit), (known.negative(number), known.unit))
                self.assertEqual(built(field, [number, number]), square)

    def test_a_last_root_that_is_nought(self):
        for field in FIELDS:
            self.assertEqual(built(field, [field.plain(1), field.plain(0)])[0], field.plain(0))


class Refused(unittest.TestCase):
    TWOS = (over_plus, over_times, over_parted, over_common)

    def wrong_numbers(self, field):
        good = (1,) * len(field)
        prime = field.prime()
        return (
            good + (0,), good[1:], good[1:] + (prime,), (-1,) + good[1:], (True,) + good[1:],
            good[1:] + (False,), good[1:] + (FORTY,), (), 1, True,
        )

    def wrong_polys(self, field):
        """What is no polynomial over a field, as tuples and lists."""
        good = field.plain(1)
        for wrong in self.wrong_numbers(field):
            for poly in ((wrong,), (good, wrong), (wrong, good), (good, wrong, good)):
                yield poly
                yield list(poly)
        nought = field.plain(0)
        for poly in ((nought,), (good, nought), (nought, nought), (good, good, nought)):
            yield poly
            yield list(poly)
        yield good
        yield nought
        yield True

    def refused(self, action, *told):
        with self.assertRaises(BadNumber) as caught:
            action(*told)
        self.assertEqual(caught.exception.word, "BadNumber")

    def test_ahead_of_all_else_at_each_place(self):
        for field in FIELDS:
            good = (field.plain(1), field.plain(1))
            for wrong in self.wrong_polys(field):
                for action in self.TWOS:
                    for other in (good, (), []):
                        self.refused(action, field, wrong, other)
                        self.refused(action, field, other, wrong)
                    self.refused(action, field, wrong, wrong)
                self.refused(over_value, field, wrong, field.plain(1))
                self.refused(over_value, field, wrong, ())

    def test_the_number_of_a_value(self):
        for field in FIELDS:
            for wrong in self.wrong_numbers(field):
                for poly in ((), [], (field.plain(1),)):
                    self.refused(over_value, field, poly, wrong)

    def test_roots(self):
        for field in FIELDS:
            good = field.plain(1)
            for wrong in self.wrong_numbers(field):
                for told in ((wrong,), [wrong], [good, wrong], (wrong, good)):
                    self.refused(built, field, told)
            self.refused(built, field, good)
            self.refused(built, field, True)

    def test_what_is_handed_in_stays(self):
        field = SMALL[4]
        one = [field.nth(at) for at in (3, 5, 8)]
        other = [field.nth(at) for at in (1, 7)]
        kept = (list(one), list(other))
        for action in self.TWOS:
            action(field, one, other)
        over_value(field, one, other[0])
        built(field, one)
        self.assertEqual((one, other), kept)


class Interface(unittest.TestCase):
    def test_names_of_what_is_handed_in(self):
        forms_told = {
            "over_plus": "(field, one, other)",
            "over_times": "(field, one, other)",
            "over_parted": "(field, one, other)",
            "over_common": "(field, one, other)",
            "over_value": "(field, one, number)",
            "built": "(field, roots)",
        }
        for name, form in forms_told.items():
            self.assertEqual(str(inspect.signature(getattr(over, name))), form)
            self.assertEqual(getattr(over, name).__module__, "rungfields.over")

    def test_handed_in_by_name(self):
        field = SMALL[0]
        self.assertEqual(over_plus(other=[(1,)], field=field, one=[]), ((1,),))
        self.assertEqual(over_value(number=(1,), one=((1,), (1,)), field=field), (0,))
        self.assertEqual(built(roots=[(1,)], field=field), ((1,), (1,)))


if __name__ == "__main__":
    unittest.main()
