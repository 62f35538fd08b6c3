"""rungfields.leadings: promises [2], of [15] what it says of any leading, and of [25] equality."""

import inspect
import itertools
import random
import unittest

import naive
from rungfields.errors import BadNumber, NoLeading, NotWithin, Outside, Unfit
from rungfields.fields import Field
from rungfields.leadings import Leading
from rungfields.roots import root, roots
from rungfields.whole import least_whole

FORTY = 10**39 + 12345


def own(degree, prime):
    return Field(least_whole(degree, prime=prime), prime=prime)


def all_leadings(low, high):
    """The leadings by each root."""
    return [Leading(low, high, number) for number, _ in roots(high, low.rule())]


PAIRS = [
    (Field((0, 1)), Field((1, 1, 1))),
    (Field((1, 1)), Field((1, 1, 0, 1))),
    (Field((1, 1)), Field((0, 1))),
    (Field((1, 1, 1)), Field((1, 1, 1))),
    (Field((1, 1, 1)), Field((1, 1, 0, 0, 1))),
    (Field((1, 1, 1)), Field((1, 1, 1, 1, 1))),
    (Field((1, 1, 0, 1)), Field((1, 0, 1, 1))),
    (Field((1, 1, 0, 1)), own(6, 2)),
    (Field((1, 1, 1)), own(6, 2)),
    (Field((2, 1), prime=3), Field((1, 0, 1), prime=3)),
    (Field((2, 1, 1), prime=3), Field((1, 0, 1), prime=3)),
    (Field((2, 2, 1), prime=3), own(4, 3)),
    (Field((3, 0, 1), prime=5), Field((2, 0, 1), prime=5)),
    (Field((4, 1), prime=7), Field((1, 0, 1), prime=7)),
    (Field((5, 1), prime=13), Field((2, 1), prime=13)),
]
GREAT = [
    (own(low, prime), own(high, prime))
    for prime, low, high in ((2, 4, 12), (2, 12, 12), (97, 6, 12), (97, 1, 12), (31, 3, 9), (97, 5, 10), (89, 1, 1))
]


def some_numbers(field, many):
    chance = random.Random(f"{field!r}")
    return [field.nth(chance.randrange(field.size())) for _ in range(many)]


class Made(unittest.TestCase):
    def refused(self, error, low, high, image):
        with self.assertRaises(error) as caught:
            Leading(low, high, image)
        self.assertEqual(caught.exception.word, error.__name__)

    def test_every_root_is_an_image_and_nothing_else(self):
        for low, high in PAIRS:
            known = naive.Numbers(high.rule(), high.prime())
            images = 0
            for number in known.all:
                if known.value(low.rule(), number) == known.nought:
                    leading = Leading(low, high, number)
                    self.assertEqual(leading.image(), number)
                    images += 1
                else:
                    self.refused(NoLeading, low, high, number)
            self.assertEqual(images, len(low))

    def test_what_it_is_made_of(self):
        for low, high in PAIRS + GREAT:
            image = root(high, low.rule())
            leading = Leading(low, high, image)
            self.assertEqual(leading.low(), low)
            self.assertEqual(leading.high(), high)
            self.assertEqual(leading.image(), image)
            self.assertEqual(len(leading), len(low))
            self.assertEqual(repr(leading), f"Leading({len(low)} to {len(high)})")

    def test_plain_ones(self):
        leading = Leading(own(2, 2), own(6, 2), root(own(6, 2), (1, 1, 1)))
        self.assertEqual(repr(leading), "Leading(2 to 6)")
        self.assertEqual(len(leading), 2)

    def test_unfit_ahead_of_all_else(self):
        for image in ((), (0, 0), (0, 0, 0), (1,), (True, 0, 0), (0, 1)):
            self.refused(Unfit, Field((1, 1, 1)), own(2, 3), image)
            self.refused(Unfit, Field((1, 1, 1)), own(3, 3), image)
            self.refused(Unfit, Field((0, 1)), Field((0, 1), prime=97), image)

    def test_not_within_ahead_of_bad_number(self):
        for low, high in ((2, 3), (3, 2), (4, 6), (12, 6), (2, 1), (5, 12)):
            for image in ((), (0,) * high, (0,) * (high + 1), (5,) * high, (True,) * high):
                self.refused(NotWithin, own(low, 5), own(high, 5), image)

    def test_bad_number_ahead_of_no_leading(self):
        for low, high in ((1, 3), (2, 4), (3, 3)):
            good = (1,) * high
            for image in (
                good + (0,), good[1:], good[1:] + (5,), (-1,) + good[1:], (True,) + good[1:],
                good[1:] + (False,), good[1:] + (FORTY,), (), 1, True,
            ):
                self.refused(BadNumber, own(low, 5), own(high, 5), image)

    def test_no_leading(self):
        self.refused(NoLeading, Field((1, 1, 1)), own(4, 2), (0, 1, 0, 0))
        self.refused(NoLeading, own(2, 97), own(12, 97), (0,) * 12)
        self.refused(NoLeading, Field((1, 1)), Field((0, 1)), (0,))


class Led(unittest.TestCase):
    def test_to_against_the_sum_written_out(self):
        for low, high in PAIRS:
            known = naive.Numbers(high.rule(), high.prime())
            for leading in all_leadings(low, high):
                for number in naive.Numbers(low.rule(), low.prime()).all:
                    self.assertEqual(leading.to(number), known.value(number, leading.image()))
                    self.assertIs(type(leading.to(number)), tuple)

    def test_back_and_holds(self):
        for low, high in PAIRS:
            for leading in all_leadings(low, high):
                led = {leading.to(low.nth(at)): low.nth(at) for at in range(low.size())}
                self.assertEqual(len(led), low.size())
                for at in range(high.size()):
                    number = high.nth(at)
                    self.assertIs(leading.holds(number), number in led)
                    if number in led:
                        self.assertEqual(leading.back(number), led[number])
                        self.assertIs(type(leading.back(number)), tuple)
                    else:
                        with self.assertRaises(Outside) as caught:
                            leading.back(number)
                        self.assertEqual(caught.exception.word, "Outside")

    def test_sums_and_products_stay(self):
        for low, high in PAIRS:
            for leading in all_leadings(low, high)[:2]:
                numbers = [low.nth(at) for at in range(low.size())]
                self.stay(leading, numbers[:: max(1, len(numbers) // 16)])

    def test_sums_and_products_stay_in_great_fields(self):
        for low, high in GREAT:
            for leading in all_leadings(low, high)[:2]:
                self.stay(leading, some_numbers(low, 6))

    def stay(self, leading, numbers):
        low, high = leading.low(), leading.high()
        self.assertEqual(leading.to(low.plain(1)), high.plain(1))
        for one, other in itertools.product(numbers, repeat=2):
            first, second = leading.to(one), leading.to(other)
            self.assertEqual(leading.to(low.plus(one, other)), high.plus(first, second))
            self.assertEqual(leading.to(low.times(one, other)), high.times(first, second))

    def test_great_fields(self):
        for low, high in GREAT:
            for leading in all_leadings(low, high):
                for number in some_numbers(low, 4):
                    led = leading.to(number)
                    self.assertIs(leading.holds(led), True)
                    self.assertEqual(leading.back(led), number)
                for number in some_numbers(high, 4):
                    inside = len(low) % high.degree(number) == 0
                    self.assertIs(leading.holds(number), inside)
                    if inside:
                        self.assertEqual(leading.to(leading.back(number)), number)
                    else:
                        with self.assertRaises(Outside):
                            leading.back(number)

    def test_x_and_rests(self):
        for low, high in PAIRS + GREAT:
            for leading in all_leadings(low, high):
                for rest in range(low.prime()):
                    self.assertEqual(leading.to(low.plain(rest)), high.plain(rest))
                    self.assertEqual(leading.back(high.plain(rest)), low.plain(rest))
                if len(low) > 1:
                    x = (0, 1) + (0,) * (len(low) - 2)
                    self.assertEqual(leading.to(x), leading.image())
                    self.assertEqual(leading.back(leading.image()), x)

    def test_a_field_into_itself(self):
        for field in (Field((1, 1, 1)), Field((1, 0, 1, 1)), own(4, 3), own(2, 97), own(12, 5)):
            x = (0, 1) + (0,) * (len(field) - 2)
            plain = Leading(field, field, x)
            for number in some_numbers(field, 9):
                self.assertEqual(plain.to(number), number)
                self.assertEqual(plain.back(number), number)
                self.assertIs(plain.holds(number), True)
            for steps in range(len(field)):
                leading = Leading(field, field, field.turned(x, steps=steps))
                for number in some_numbers(field, 3):
                    self.assertEqual(leading.to(number), field.turned(number, steps=steps))
                    self.assertEqual(leading.back(number), field.turned(number, steps=-steps))

    def test_bad_number(self):
        for low, high in PAIRS + GREAT:
            leading = Leading(low, high, root(high, low.rule()))
            for field, actions in ((low, (leading.to,)), (high, (leading.back, leading.holds))):
                good = (1,) * len(field)
                for wrong in (
                    good + (0,), good[1:], good[1:] + (field.prime(),), (-1,) + good[1:], (True,) + good[1:],
                    good[1:] + (False,), good[1:] + (FORTY,), (), 1, True,
                ):
                    for action in actions:
                        with self.assertRaises(BadNumber):
                            action(wrong)


class Then(unittest.TestCase):
    CHAINS = ((2, (1, 2, 4, 12)), (2, (3, 3, 6, 12)), (3, (2, 4, 4, 8)), (5, (1, 3, 6, 6)), (97, (1, 2, 6, 12)))

    def test_one_behind_another(self):
        for prime, degrees in self.CHAINS:
            fields = [own(degree, prime) for degree in degrees]
            for low, middle, high in zip(fields, fields[1:], fields[2:]):
                for first, second in itertools.product(all_leadings(low, middle)[:3], all_leadings(middle, high)[:3]):
                    both = first.then(second)
                    self.assertEqual((both.low(), both.high()), (low, high))
                    self.assertEqual(both.image(), second.to(first.image()))
                    self.assertEqual(repr(both), f"Leading({len(low)} to {len(high)})")
                    for number in some_numbers(low, 5):
                        self.assertEqual(both.to(number), second.to(first.to(number)))
                        self.assertEqual(both.back(second.to(first.to(number))), number)

    def test_both_bracketings_of_three(self):
        for prime, degrees in self.CHAINS:
            fields = [own(degree, prime) for degree in degrees]
            steps = [all_leadings(low, high)[:2] for low, high in zip(fields, fields[1:])]
            for first, second, third in itertools.product(*steps):
                one = first.then(second).then(third)
                other = first.then(second.then(third))
                self.assertTrue(one == other)
                self.assertFalse(one != other)

    def test_by_fields_that_are_equal_but_not_the_same_thing(self):
        first = Leading(own(1, 2), own(2, 2), (0, 0))
        second = Leading(own(2, 2), own(4, 2), root(own(4, 2), (1, 1, 1)))
        self.assertEqual(first.then(second).image(), (0, 0, 0, 0))

    def test_unfit_where_fields_do_not_meet(self):
        leadings = [Leading(low, high, root(high, low.rule())) for low, high in PAIRS]
        for first, second in itertools.product(leadings, repeat=2):
            if first.high() == second.low():
                self.assertEqual(len(first.then(second)), len(first))
            else:
                with self.assertRaises(Unfit) as caught:
                    first.then(second)
                self.assertEqual(caught.exception.word, "Unfit")


class Equal(unittest.TestCase):
    def test_of_equal_fields_and_image(self):
        for low, high in PAIRS:
            for image, _ in roots(high, low.rule()):
                one = Leading(low, high, image)
                other = Leading(
                    Field(low.rule(), prime=low.prime()), Field(high.rule(), prime=high.prime()), tuple(list(image))
                )
                self.assertTrue(one == other)
                self.assertFalse(one != other)

    def test_of_unlike_ones(self):
        leadings = [leading for low, high in PAIRS for leading in all_leadings(low, high)]
        for one, other in itertools.permutations(leadings, 2):
            self.assertFalse(one == other)
            self.assertTrue(one != other)

    def test_of_the_same_image_alone(self):
        leadings = [
            Leading(Field((0, 1)), own(2, 2), (0, 0)),
            Leading(Field((0, 1)), own(3, 2), (0, 0, 0)),
            Leading(Field((1, 1)), own(2, 2), (1, 0)),
            Leading(Field((0, 1), prime=3), Field((1, 0, 1), prime=3), (0, 0)),
            Leading(Field((0, 1), prime=3), Field((2, 1, 1), prime=3), (0, 0)),
        ]
        for one, other in itertools.permutations(leadings, 2):
            self.assertTrue(one != other)
            self.assertFalse(one == other)

    def test_of_other_things(self):
        leading = Leading(Field((0, 1)), own(2, 2), (0, 0))
        for other in ((0, 0), Field((0, 1)), own(2, 2), "Leading(1 to 2)", 1, None, True, [], object()):
            self.assertFalse(leading == other)
            self.assertTrue(leading != other)
            self.assertFalse(other == leading)
            self.assertTrue(other != leading)


class Interface(unittest.TestCase):
    def test_names_of_what_is_handed_in(self):
        self.assertEqual(str(inspect.signature(Leading)), "(low, high, image)")
        self.assertEqual(Leading.__module__, "rungfields.leadings")
        forms = {
            "low": "(self)", "high": "(self)", "image": "(self)", "to": "(self, number)", "back": "(self, number)",
            "holds": "(self, number)", "then": "(self, other)",
        }
        for name, form in forms.items():
            self.assertEqual(str(inspect.signature(vars(Leading)[name])), form)
        for name in ("__len__", "__repr__", "__eq__"):
            self.assertIn(name, vars(Leading))

    def test_handed_in_by_name(self):
        leading = Leading(image=(0, 0), high=own(2, 2), low=Field((0, 1)))
        self.assertEqual(leading.to(number=(1,)), (1, 0))
        self.assertEqual(leading.back(number=(1, 0)), (1,))
        self.assertIs(leading.holds(number=(0, 1)), False)
        self.assertEqual(leading.then(other=Leading(own(2, 2), own(2, 2), (0, 1))), leading)


if __name__ == "__main__":
    unittest.main()
