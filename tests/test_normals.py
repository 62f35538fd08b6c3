"""rungfields.normals: promises [2] and of [21] normal numbers and mirrored rows."""

import inspect
import itertools
import random
import unittest

import naive
from rungfields.errors import BadNumber, BadTable
from rungfields.fields import Field
from rungfields.grid import stepped
from rungfields.normals import is_normal, least_normal, mirror, written_by
from rungfields.rests import PRIMES
from rungfields.whole import is_whole, least_whole

FORTY = 10**39 + 12345
SMALL = [
    Field(rule, prime=prime)
    for prime, rule in (
        (2, (0, 1)), (2, (1, 1)), (2, (1, 1, 1)), (2, (1, 1, 0, 1)), (2, (1, 0, 1, 1)), (2, (1, 1, 1, 1, 1)),
        (2, (1, 0, 0, 1, 1)), (3, (1, 1)), (3, (1, 0, 1)), (3, (2, 1, 1)), (3, (1, 2, 0, 1)), (5, (2, 0, 1)),
        (5, (3, 1)), (7, (1, 0, 1)), (13, (6, 1)), (2, (1, 1, 0, 0, 0, 0, 1)), (3, (2, 1, 0, 0, 1)), (7, (2, 0, 0, 1)),
    )
]
GREAT = [
    Field(least_whole(degree, prime=prime), prime=prime)
    for prime, degree in ((2, 12), (3, 9), (5, 12), (7, 6), (97, 6), (97, 12), (47, 11), (97, 1))
]


def binomial(prime, degree):
    """A field in whose rule only the rest and the highest power stand, where there is one."""
    for rest in range(1, prime):
        rule = (rest,) + (0,) * (degree - 1) + (1,)
        if is_whole(rule, prime=prime):
            return Field(rule, prime=prime)
    return None


def some_numbers(field, many, seed=0):
    chance = random.Random(f"{field!r} {seed}")
    return [field.nth(chance.randrange(field.size())) for _ in range(many)]


def all_numbers(field):
    return [field.nth(at) for at in range(field.size())]


def turns(field, number):
    return [field.turned(number, steps=steps) for steps in range(len(field))]


def spans(field, numbers):
    """Whether some numbers make all others, by all their sums."""
    return len(naive.span(numbers, len(field), field.prime())) == field.size()


def weighed_out(field, weights, numbers):
    total = field.plain(0)
    for weight, number in zip(weights, numbers, strict=True):
        total = field.plus(total, field.times(field.plain(weight), number))
    return total


def bad_numbers(field):
    good = (1,) * len(field)
    return (
        good + (0,), good[1:], good[1:] + (field.prime(),), (-1,) + good[1:], (True,) + good[1:], good[1:] + (False,),
        good[1:] + (FORTY,), (),
    )


class Case(unittest.TestCase):
    def refused(self, error, action, *told):
        with self.assertRaises(error) as caught:
            action(*told)
        self.assertEqual(caught.exception.word, error.__name__)
        return caught.exception

    def bad_table(self, action, *told):
        self.assertEqual(self.refused(BadTable, action, *told).at, 0)


class Normal(Case):
    def test_all_numbers_of_small_fields(self):
        for field in SMALL:
            for number in all_numbers(field)[:150]:
                self.assertIs(is_normal(field, number), spans(field, turns(field, number)))

    def test_great_fields(self):
        for field in GREAT:
            for number in some_numbers(field, 10) + [field.plain(1), field.plain(0)]:
                rank = len(stepped(turns(field, number), len(field), prime=field.prime()))
                self.assertIs(is_normal(field, number), rank == len(field))

    def test_bad_number(self):
        for field in SMALL[::4] + GREAT[::3]:
            for bad in bad_numbers(field):
                self.refused(BadNumber, is_normal, field, bad)


class LeastNormal(Case):
    def test_by_places(self):
        for field in SMALL:
            first = next(number for number in all_numbers(field) if spans(field, turns(field, number)))
            self.assertEqual(least_normal(field), first)

    def test_fields_of_some_hundreds_of_numbers(self):
        for prime, degree in ((2, 8), (2, 7), (3, 6), (3, 5), (5, 4), (7, 4), (11, 3), (19, 2), (31, 2), (97, 2)):
            for rule in self.some_rules(prime, degree):
                field = Field(rule, prime=prime)
                at = 0
                while len(stepped(turns(field, field.nth(at)), degree, prime=prime)) < degree:
                    at += 1
                self.assertEqual(least_normal(field), field.nth(at))

    def some_rules(self, prime, degree):
        chance = random.Random(f"{prime} {degree}")
        told = [least_whole(degree, prime=prime)]
        while len(told) < 3:
            rule = tuple(chance.choice((0, chance.randrange(prime))) for _ in range(degree)) + (1,)
            if is_whole(rule, prime=prime):
                told.append(rule)
        return told

    def test_great_fields(self):
        for field in GREAT:
            number = least_normal(field)
            self.assertIs(is_normal(field, number), True)
            for at in range(min(field.place(number), 100)):
                self.assertIs(is_normal(field, field.nth(at)), False)

    def test_where_no_rest_may_be_nought(self):
        # by such a rule a turn only weighs each power of x anew
        for prime, degree in ((97, 12), (73, 8), (61, 6), (13, 12), (5, 4), (97, 2), (31, 5)):
            field = binomial(prime, degree)
            self.assertEqual(least_normal(field), (1,) * degree)

    def test_all_degrees_of_all_primes(self):
        for prime in PRIMES[::6]:
            for degree in range(1, 13):
                field = Field(least_whole(degree, prime=prime), prime=prime)
                self.assertIs(is_normal(field, least_normal(field)), True)


class WrittenBy(Case):
    def test_weighed_out(self):
        for field in SMALL + GREAT:
            number = least_normal(field)
            for wanted in some_numbers(field, 5) + [field.plain(0), field.plain(1), number]:
                weights = written_by(field, number, wanted)
                self.assertIs(type(weights), list)
                self.assertTrue(all(0 <= weight < field.prime() for weight in weights))
                self.assertEqual(weighed_out(field, weights, turns(field, number)), wanted)

    def test_by_all_normal_numbers(self):
        for field in SMALL[:14]:
            for number, wanted in itertools.product(all_numbers(field)[:40], some_numbers(field, 2)):
                if spans(field, turns(field, number)):
                    weights = written_by(field, number, wanted)
                    self.assertEqual(weighed_out(field, weights, turns(field, number)), wanted)
                else:
                    self.bad_table(written_by, field, number, wanted)

    def test_no_normal_number(self):
        for field in SMALL + GREAT:
            self.bad_table(written_by, field, field.plain(0), field.plain(1))
            if len(field) > 1:
                self.bad_table(written_by, field, field.plain(1), field.plain(1))
                self.bad_table(written_by, field, field.plain(1), field.plain(0))

    def test_bad_number_ahead(self):
        for field in SMALL[::4] + GREAT[::3]:
            for bad in bad_numbers(field):
                self.refused(BadNumber, written_by, field, bad, field.plain(1))
                self.refused(BadNumber, written_by, field, field.plain(0), bad)
                self.refused(BadNumber, written_by, field, least_normal(field), bad)

    def test_each_told_list_is_a_new_one(self):
        field = SMALL[3]
        number = least_normal(field)
        written_by(field, number, number).clear()
        self.assertEqual(written_by(field, number, number), [1, 0, 0])


class Mirror(Case):
    def bases(self, field, many):
        """Some bases: powers of x, turns of a normal number, and such as come by chance."""
        width = len(field)
        told = [[field.nth(field.prime() ** at) for at in range(width)], turns(field, least_normal(field))]
        seed = 0
        while len(told) < many:
            row = some_numbers(field, width, seed)
            if len(stepped(row, width, prime=field.prime())) == width:
                told.append(row)
            seed += 1
        return told

    def test_traces_of_products(self):
        for field in SMALL + GREAT:
            for row in self.bases(field, 5 if field.size() < 10000 else 3):
                mirrored = mirror(field, row)
                self.assertIs(type(mirrored), list)
                self.assertEqual(len(mirrored), len(field))
                for (at, one), (place, other) in itertools.product(enumerate(row), enumerate(mirrored)):
                    self.assertEqual(field.trace(field.times(one, other)), int(at == place))

    def test_twice(self):
        for field in SMALL + GREAT:
            for row in self.bases(field, 3):
                held = list(row)
                self.assertEqual(mirror(field, mirror(field, row)), held)
                self.assertEqual(mirror(field, tuple(row)), mirror(field, row))
                self.assertEqual(row, held)

    def test_against_all_rows_of_numbers(self):
        field = SMALL[2]
        for row in itertools.product(all_numbers(field), repeat=2):
            if spans(field, row):
                self.assertEqual(len(mirror(field, row)), 2)
            else:
                self.bad_table(mirror, field, row)

    def test_no_basis(self):
        for field in SMALL + GREAT:
            width = len(field)
            row = turns(field, least_normal(field))
            self.bad_table(mirror, field, [field.plain(0)] * width)
            self.bad_table(mirror, field, row[:-1])
            self.bad_table(mirror, field, row + [field.plain(1)])
            self.bad_table(mirror, field, row + row)
            self.bad_table(mirror, field, [])
            self.bad_table(mirror, field, ())
            if width > 1:
                self.bad_table(mirror, field, row[:-1] + row[:1])
                self.bad_table(mirror, field, [field.plain(1)] + row[:-2] + [field.plain(field.prime() - 1)])

    def test_bad_number_ahead(self):
        for field in SMALL[::4] + GREAT[::3]:
            row = turns(field, least_normal(field))
            for bad in bad_numbers(field):
                self.refused(BadNumber, mirror, field, row[:-1] + [bad])
                self.refused(BadNumber, mirror, field, [bad] + row[1:])
                self.refused(BadNumber, mirror, field, row + [bad])
                self.refused(BadNumber, mirror, field, [field.plain(0), bad])

    def test_each_told_list_is_a_new_one(self):
        field = SMALL[3]
        row = turns(field, least_normal(field))
        known = mirror(field, row)
        mirror(field, row).clear()
        self.assertEqual(mirror(field, row), known)


class Interface(Case):
    def test_names_of_what_is_handed_in(self):
        forms = {
            is_normal: "(field, number)", least_normal: "(field)", written_by: "(field, number, wanted)",
            mirror: "(field, numbers)",
        }
        for action, form in forms.items():
            self.assertEqual(str(inspect.signature(action)), form)
            self.assertEqual(action.__module__, "rungfields.normals")

    def test_handed_in_by_name(self):
        field = SMALL[2]
        self.assertIs(is_normal(number=(0, 1), field=field), True)
        self.assertEqual(least_normal(field=field), (0, 1))
        self.assertEqual(written_by(wanted=(1, 0), number=(0, 1), field=field), [1, 1])
        self.assertEqual(mirror(numbers=[(1, 0), (0, 1)], field=field), [(1, 1), (1, 0)])


if __name__ == "__main__":
    unittest.main()
