"""rungfields.fields: promises [2], [11], [12] and, as far as a Field is concerned, [25]."""

import inspect
import itertools
import random
import unittest

import naive
from rungfields.errors import BadNumber, BadPoly, BadPrime, BadRest, BadRule, NoInverse, NotWhole
from rungfields.fields import Field
from rungfields.parting import parts
from rungfields.polys import poly_text
from rungfields.rests import PRIMES
from rungfields.whole import least_whole

FORTY = 10**39 + 12345
MOST = 10**40 - 1
NO_PRIMES = (0, 1, 4, 9, 99, 101, -2, FORTY, -FORTY, True)
RULES = [
    (2, (0, 1)), (2, (1, 1)), (2, (1, 1, 1)), (2, (1, 1, 0, 1)), (2, (1, 0, 1, 1)), (2, (1, 1, 1, 1, 1)),
    (3, (2, 1)), (3, (1, 0, 1)), (3, (2, 1, 1)), (3, (1, 2, 0, 1)), (5, (3, 1)), (5, (2, 0, 1)), (7, (1, 0, 1)),
    (13, (5, 1)),
]
SMALL = [(Field(rule, prime=prime), naive.Numbers(rule, prime)) for prime, rule in RULES]
TINY = [(field, known) for field, known in SMALL if field.size() <= 16]
GREAT = [
    Field(least_whole(degree, prime=prime), prime=prime)
    for prime, degree in ((2, 12), (2, 7), (3, 11), (5, 8), (13, 6), (31, 9), (97, 12), (97, 1), (89, 5))
]


def some_numbers(field, many):
    """Some numbers of a field, the same in each run, nought and one among them."""
    chance = random.Random(f"{field!r}")
    yield (0,) * len(field)
    yield (1,) + (0,) * (len(field) - 1)
    for _ in range(many):
        yield tuple(chance.randrange(field.prime()) for _ in range(len(field)))


class Rules(unittest.TestCase):
    def refused(self, error, rule, prime):
        with self.assertRaises(error) as caught:
            Field(rule, prime=prime)
        return caught.exception

    def test_degrees_to_12(self):
        for prime in PRIMES:
            for degree in (1, 2, 5, 12):
                rule = least_whole(degree, prime=prime)
                field = Field(rule, prime=prime)
                self.assertEqual(field.rule(), rule)
                self.assertEqual(field.prime(), prime)
                self.assertEqual(field.size(), prime**degree)
                self.assertEqual(len(field), degree)

    def test_every_degree_by_small_primes(self):
        for prime, degree in itertools.product((2, 3, 97), range(1, 13)):
            field = Field(least_whole(degree, prime=prime), prime=prime)
            self.assertEqual((len(field), field.size()), (degree, prime**degree))

    def test_all_rules_of_small_degrees(self):
        for prime, most in ((2, 6), (3, 4), (5, 3)):
            wholes = naive.sieve(prime, most)
            for degree in range(1, most + 1):
                for rule in naive.level_polys(prime, degree):
                    if rule in wholes[degree]:
                        self.assertEqual(Field(rule, prime=prime).rule(), rule)
                    else:
                        told = self.refused(NotWhole, rule, prime)
                        self.assertEqual(told.part, naive.parts(rule, prime, wholes)[0][0])
                        self.assertEqual(told.word, "NotWhole")

    def test_bad_prime_ahead_of_all_else(self):
        for prime in NO_PRIMES:
            for rule in ((1, 1, 1), (1, 0), (), (1, 2), (0, 0, 1), (1,) * 30, (0,) * 13 + (1,)):
                self.refused(BadPrime, rule, prime)

    def test_bad_poly_ahead_of_bad_rule(self):
        for rule in (
            (0,), (1, 0), (1, 5), (-1, 1), (True, 1), (1, True), (FORTY, 1), (1,) * 26, (0,) * 13 + (2, 0),
        ):
            self.refused(BadPoly, rule, 5)

    def test_bad_rule_ahead_of_not_whole(self):
        for rule in (
            (), (1,), (2,), (1, 2), (0, 0, 2), (2, 0, 4), (0,) * 12 + (4,), (0,) * 13 + (1,), (2,) * 13 + (1,),
            (1,) * 25,
        ):
            self.refused(BadRule, rule, 5)

    def test_not_whole(self):
        self.assertEqual(self.refused(NotWhole, (1, 0, 1), 5).part, (2, 1))
        self.assertEqual(self.refused(NotWhole, (0,) * 12 + (1,), 97).part, (0, 1))
        square = naive.times(least_whole(6, prime=31), least_whole(6, prime=31), 31)
        self.assertEqual(self.refused(NotWhole, square, 31).part, least_whole(6, prime=31))

    def test_not_whole_with_the_first_part(self):
        chance = random.Random("not whole")
        for prime in (2, 3, 7, 43, 97):
            wholes = [least_whole(degree, prime=prime) for degree in range(2, 7)]
            wholes += [parts(poly, prime=prime)[1][0][0] for poly in naive.some_polys(prime, 7, 9, "rule")]
            for _ in range(20):
                told = chance.sample(wholes, 2)
                rule = naive.times(told[0], told[1], prime)
                if len(rule) <= 13:
                    first = min(told, key=lambda part: (len(part), part))
                    self.assertEqual(self.refused(NotWhole, rule, prime).part, first)


class Told(unittest.TestCase):
    def test_plain(self):
        for field, _ in SMALL:
            for rest in range(field.prime()):
                self.assertEqual(field.plain(rest), (rest,) + (0,) * (len(field) - 1))
            for rest in (field.prime(), -1, FORTY, -FORTY, True, False):
                with self.assertRaises(BadRest):
                    field.plain(rest)

    def test_len_repr_and_str(self):
        field = Field((1, 1, 1))
        self.assertEqual(repr(field), "Field(1 + x + x^2 by 2)")
        self.assertEqual(str(field), "1 + x + x^2")
        self.assertEqual(len(field), 2)
        self.assertEqual(repr(Field((0, 1), prime=97)), "Field(x by 97)")
        self.assertEqual(repr(Field((3, 1), prime=5)), "Field(3 + x by 5)")
        for field in GREAT:
            text = poly_text(field.rule(), prime=field.prime())
            self.assertEqual(str(field), text)
            self.assertEqual(repr(field), f"Field({text} by {field.prime()})")

    def test_default_prime(self):
        self.assertEqual(Field((1, 1, 1)).prime(), 2)
        with self.assertRaises(BadPoly):
            Field((2, 1))


class Equal(unittest.TestCase):
    def test_of_the_same_rule_and_prime(self):
        for prime, rule in RULES:
            one = Field(rule, prime=prime)
            other = Field(tuple(list(rule)), prime=prime)
            self.assertTrue(one == other)
            self.assertFalse(one != other)
            self.assertTrue(one == one)

    def test_of_unlike_ones(self):
        fields = [Field(rule, prime=prime) for prime, rule in RULES]
        fields += [Field((0, 1), prime=3), Field((1, 1), prime=3), Field((1, 0, 1), prime=11)]
        for one, other in itertools.permutations(fields, 2):
            self.assertFalse(one == other)
            self.assertTrue(one != other)

    def test_of_other_things(self):
        field = Field((1, 1, 1))
        for other in ((1, 1, 1), [1, 1, 1], 2, 4, None, True, "Field(1 + x + x^2 by 2)", str(field), {}, object()):
            self.assertFalse(field == other)
            self.assertTrue(field != other)
            self.assertFalse(other == field)
            self.assertTrue(other != field)


class SmallFields(unittest.TestCase):
    """Everything against all numbers, gone through."""

    def test_sums_and_products(self):
        for field, known in SMALL:
            for one, other in itertools.product(known.all, repeat=2):
                self.assertEqual(field.plus(one, other), known.plus(one, other))
                self.assertEqual(field.minus(one, other), known.minus(one, other))
                self.assertEqual(field.times(one, other), known.times(one, other))

    def test_undone(self):
        for field, known in SMALL:
            for number in known.all:
                if number != known.nought:
                    self.assertEqual(field.undone(number), known.undone(number))
            with self.assertRaises(NoInverse):
                field.undone(known.nought)

    def test_power(self):
        for field, known in SMALL:
            for number in known.all[:: max(1, field.size() // 20)]:
                told = known.unit
                for exponent in range(field.size() + 2):
                    self.assertEqual(field.power(number, exponent), told)
                    told = known.times(told, number)
                if number == known.nought:
                    continue
                under = known.undone(number)
                told = known.unit
                for exponent in range(field.size() + 2):
                    self.assertEqual(field.power(number, -exponent), told)
                    told = known.times(told, under)

    def test_turned(self):
        for field, known in SMALL:
            degree = len(field)
            for number in known.all[:: max(1, field.size() // 30)]:
                self.assertEqual(field.turned(number), known.turned(number))
                for steps in (*range(-5, 6), FORTY, -FORTY, MOST, -MOST):
                    wanted = known.turned(number, steps % degree)
                    self.assertEqual(field.turned(number, steps=steps), wanted)

    def test_degree(self):
        for field, known in SMALL:
            for number in known.all:
                count = 1
                turn = known.turned(number)
                while turn != number:
                    count += 1
                    turn = known.turned(turn)
                self.assertEqual(field.degree(number), count)
                self.assertEqual(len(field) % count, 0)

    def test_least(self):
        for field, known in TINY:
            prime = field.prime()
            for number in known.all:
                told = next(
                    poly
                    for degree in range(1, len(field) + 1)
                    for poly in naive.level_polys(prime, degree)
                    if known.value(poly, number) == known.nought
                )
                self.assertEqual(field.least(number), told)
                self.assertEqual(len(told) - 1, field.degree(number))

    def test_trace_and_norm(self):
        for field, known in SMALL:
            for number in known.all:
                turns = [known.turned(number, steps) for steps in range(len(field))]
                total, product = known.nought, known.unit
                for turn in turns:
                    total = known.plus(total, turn)
                    product = known.times(product, turn)
                self.assertIs(type(field.trace(number)), int)
                self.assertIs(type(field.norm(number)), int)
                self.assertEqual(field.plain(field.trace(number)), total)
                self.assertEqual(field.plain(field.norm(number)), product)

    def test_place_and_nth(self):
        for field, known in SMALL:
            prime = field.prime()
            places = []
            for number in known.all:
                place = sum(rest * prime**at for at, rest in enumerate(number))
                self.assertEqual(field.place(number), place)
                self.assertEqual(field.nth(place), number)
                places.append(place)
            self.assertEqual(sorted(places), list(range(field.size())))


class GreatFields(unittest.TestCase):
    def test_sums(self):
        for field in GREAT:
            prime = field.prime()
            for one, other in itertools.product(some_numbers(field, 6), repeat=2):
                total = field.plus(one, other)
                self.assertEqual(total, tuple((by + rest) % prime for by, rest in zip(one, other)))
                self.assertEqual(field.minus(total, other), one)
                self.assertIs(type(total), tuple)

    def test_products(self):
        for field in GREAT:
            for one, other in itertools.product(some_numbers(field, 6), repeat=2):
                product = naive.cut(field.times(one, other))
                self.assertEqual(len(field.times(one, other)), len(field))
                wanted = naive.left(naive.times(one, other, field.prime()), field.rule(), field.prime())
                self.assertEqual(product, wanted)

    def test_undone(self):
        for field in GREAT:
            for number in some_numbers(field, 9):
                if any(number):
                    under = field.undone(number)
                    self.assertEqual(field.times(number, under), field.plain(1))
                    self.assertEqual(field.power(number, -1), under)
                    self.assertEqual(field.undone(under), number)

    def test_powers_of_forty_figures(self):
        for field in GREAT:
            for number in some_numbers(field, 3):
                if not any(number):
                    continue
                for exponent in (FORTY, MOST, 10**39):
                    told = field.power(number, exponent)
                    self.assertEqual(told, self.power(field, number, exponent))
                    behind = field.power(number, -exponent)
                    self.assertEqual(field.times(told, behind), field.plain(1))

    def power(self, field, number, exponent):
        """A power figure by figure, without leaving out what comes round."""
        told = field.plain(1)
        for figure in str(exponent):
            tenth = told
            for _ in range(9):
                tenth = field.times(tenth, told)
            told = tenth
            for _ in range(int(figure)):
                told = field.times(told, number)
        return told

    def test_powers_of_nought(self):
        for field in GREAT + [field for field, _ in SMALL]:
            nought = field.plain(0)
            self.assertEqual(field.power(nought, 0), field.plain(1))
            for exponent in (1, 2, field.size() - 1, field.size(), FORTY, MOST):
                self.assertEqual(field.power(nought, exponent), nought)
                with self.assertRaises(NoInverse):
                    field.power(nought, -exponent)
            for number in some_numbers(field, 3):
                self.assertEqual(field.power(number, 0), field.plain(1))

    def test_turned(self):
        for field in GREAT:
            degree = len(field)
            for number in some_numbers(field, 3):
                turn = field.turned(number)
                self.assertEqual(turn, self.power(field, number, field.prime()))
                self.assertEqual(field.turned(turn, steps=-1), number)
                self.assertEqual(field.turned(number, steps=0), number)
                for steps in (degree, -degree, degree * FORTY // 100, -degree * (FORTY // 100)):
                    told = field.turned(number, steps=steps)
                    self.assertEqual(field.turned(told, steps=-steps), number)
                    self.assertEqual(told, field.turned(number, steps=steps % degree))

    def test_least_and_degree(self):
        for field in GREAT:
            for number in some_numbers(field, 5):
                told = field.least(number)
                self.assertIs(type(told), tuple)
                self.assertEqual(told[-1], 1)
                self.assertEqual(len(told) - 1, field.degree(number))
                self.assertEqual(parts(told, prime=field.prime()), (1, [(told, 1)]))
                total = field.plain(0)
                for rest in reversed(told):
                    total = field.plus(field.times(total, number), field.plain(rest))
                self.assertEqual(total, field.plain(0))

    def test_of_x(self):
        for field in GREAT:
            if len(field) > 1:
                number = (0, 1) + (0,) * (len(field) - 2)
                rule = field.rule()
                self.assertEqual(field.least(number), rule)
                self.assertEqual(field.degree(number), len(field))
                self.assertEqual(field.trace(number), -rule[-2] % field.prime())
                sign = (-1) ** len(field)
                self.assertEqual(field.norm(number), sign * rule[0] % field.prime())

    def test_degrees_within(self):
        for prime in (2, 5, 97):
            field = Field(least_whole(12, prime=prime), prime=prime)
            for number in some_numbers(field, 2):
                for degree in (1, 2, 3, 4, 6):
                    total = field.plain(0)
                    for steps in range(0, 12, degree):
                        total = field.plus(total, field.turned(number, steps=steps))
                    self.assertEqual(degree % field.degree(total), 0)

    def test_traces_and_norms_go_with_sums_and_products(self):
        for field in GREAT:
            prime = field.prime()
            for one, other in itertools.product(some_numbers(field, 3), repeat=2):
                total = field.trace(field.plus(one, other))
                self.assertEqual(total, (field.trace(one) + field.trace(other)) % prime)
                product = field.norm(field.times(one, other))
                self.assertEqual(product, field.norm(one) * field.norm(other) % prime)
            for rest in (0, 1, prime - 1):
                self.assertEqual(field.trace(field.plain(rest)), rest * len(field) % prime)
                self.assertEqual(field.norm(field.plain(rest)), rest ** len(field) % prime)

    def test_places_at_both_ends_and_beyond(self):
        for field in GREAT + [field for field, _ in SMALL]:
            top = (field.prime() - 1,) * len(field)
            self.assertEqual(field.nth(0), field.plain(0))
            self.assertEqual(field.nth(1), field.plain(1))
            self.assertEqual(field.nth(field.size() - 1), top)
            self.assertEqual(field.place(top), field.size() - 1)
            self.assertEqual(field.place(field.plain(0)), 0)
            for at in (-1, -field.size(), field.size(), field.size() + 1, FORTY, -FORTY, True, False):
                with self.assertRaises(BadNumber):
                    field.nth(at)
            for number in some_numbers(field, 5):
                self.assertEqual(field.nth(field.place(number)), number)


class Refused(unittest.TestCase):
    ONES = ("undone", "turned", "degree", "least", "trace", "norm", "place")
    TWOS = ("plus", "minus", "times")

    def wrong(self, field):
        good = (1,) * len(field)
        prime = field.prime()
        yield good + (0,)
        yield good + (1,)
        yield good[1:]
        yield good[1:] + (prime,)
        yield (prime,) + good[1:]
        yield (-1,) + good[1:]
        yield good[1:] + (-prime,)
        yield (True,) + good[1:]
        yield good[1:] + (False,)
        yield good[1:] + (FORTY,)
        yield ()
        yield True
        yield 1

    def refused(self, action, *told, **more):
        with self.assertRaises(BadNumber) as caught:
            action(*told, **more)
        self.assertEqual(caught.exception.word, "BadNumber")

    def test_each_method_at_either_place(self):
        for field in GREAT + [field for field, _ in SMALL]:
            good = (1,) * len(field)
            for wrong in self.wrong(field):
                for name in self.ONES:
                    self.refused(getattr(field, name), wrong)
                for name in self.TWOS:
                    self.refused(getattr(field, name), wrong, good)
                    self.refused(getattr(field, name), good, wrong)
                    self.refused(getattr(field, name), wrong, wrong)
                for steps in (0, 1, -1, FORTY):
                    self.refused(field.turned, wrong, steps=steps)
                for exponent in (0, 1, -1, -FORTY):
                    self.refused(field.power, wrong, exponent)

    def test_ahead_of_no_inverse(self):
        for field in GREAT + [field for field, _ in SMALL]:
            nought = (0,) * len(field)
            for wrong in (nought + (0,), nought[1:], (False,) + nought[1:], (-field.prime(),) + nought[1:]):
                self.refused(field.undone, wrong)
                self.refused(field.power, wrong, -1)

    def test_no_count(self):
        for field in GREAT:
            for number in some_numbers(field, 1):
                self.refused(field.power, number, True)
                self.refused(field.turned, number, steps=False)


class Interface(unittest.TestCase):
    FORMS = {
        "rule": "(self)",
        "prime": "(self)",
        "size": "(self)",
        "plain": "(self, rest)",
        "plus": "(self, one, other)",
        "minus": "(self, one, other)",
        "times": "(self, one, other)",
        "undone": "(self, number)",
        "power": "(self, number, exponent)",
        "turned": "(self, number, *, steps=1)",
        "degree": "(self, number)",
        "least": "(self, number)",
        "trace": "(self, number)",
        "norm": "(self, number)",
        "place": "(self, number)",
        "nth": "(self, at)",
    }

    def test_names_of_what_is_handed_in(self):
        self.assertEqual(str(inspect.signature(Field)), "(rule, *, prime=2)")
        self.assertEqual(Field.__module__, "rungfields.fields")
        for name, form in self.FORMS.items():
            self.assertEqual(str(inspect.signature(vars(Field)[name])), form)
        for name in ("__len__", "__repr__", "__str__", "__eq__"):
            self.assertIn(name, vars(Field))

    def test_handed_in_by_name(self):
        field = Field(prime=3, rule=(1, 0, 1))
        self.assertEqual(field.plain(rest=2), (2, 0))
        self.assertEqual(field.minus(other=(1, 1), one=(0, 0)), (2, 2))
        self.assertEqual(field.power(exponent=2, number=(0, 1)), (2, 0))
        self.assertEqual(field.turned(number=(0, 1), steps=1), (0, 2))
        self.assertEqual(field.nth(at=5), (2, 1))

    def test_by_its_name_alone(self):
        with self.assertRaises(TypeError):
            Field((1, 1), 3)
        with self.assertRaises(TypeError):
            Field((1, 1)).turned((1,), 1)


if __name__ == "__main__":
    unittest.main()
