"""rungfields.sums: promises [2], [20] and of [21] turns less a number and over it."""

import inspect
import itertools
import random
import unittest

import naive
from rungfields.errors import BadNumber
from rungfields.fields import Field
from rungfields.grid import stepped
from rungfields.sums import answers, differs, shares, turned_sum
from rungfields.whole import least_whole

FORTY = 10**39 + 12345
SMALL = [
    Field(rule, prime=prime)
    for prime, rule in (
        (2, (0, 1)), (2, (1, 1)), (2, (1, 1, 1)), (2, (1, 1, 0, 1)), (2, (1, 0, 1, 1)), (2, (1, 1, 1, 1, 1)),
        (2, (1, 0, 0, 1, 1)), (3, (1, 1)), (3, (1, 0, 1)), (3, (2, 1, 1)), (3, (1, 2, 0, 1)), (5, (2, 0, 1)),
        (5, (3, 1)), (7, (1, 0, 1)), (13, (6, 1)),
    )
]
GREAT = [
    Field(least_whole(degree, prime=prime), prime=prime)
    for prime, degree in ((2, 12), (3, 9), (5, 12), (7, 6), (97, 6), (97, 12), (47, 11), (97, 1))
]


def some_numbers(field, many, seed=0):
    chance = random.Random(f"{field!r} {seed}")
    return [field.nth(chance.randrange(field.size())) for _ in range(many)]


def all_numbers(field):
    return [field.nth(at) for at in range(field.size())]


def bad_numbers(field):
    good = (1,) * len(field)
    return (
        good + (0,), good[1:], good[1:] + (field.prime(),), (-1,) + good[1:], (True,) + good[1:], good[1:] + (False,),
        good[1:] + (FORTY,), (),
    )


def by_hand(field, weights, number):
    """The turned sum by powers."""
    total = field.plain(0)
    for at, weight in enumerate(weights):
        total = field.plus(total, field.times(weight, field.turned(number, steps=at)))
    return total


class Case(unittest.TestCase):
    def refused(self, error, action, *told):
        with self.assertRaises(error) as caught:
            action(*told)
        self.assertEqual(caught.exception.word, error.__name__)


class TurnedSum(Case):
    def test_none_to_five_weights(self):
        for field in SMALL + GREAT:
            for count in range(6):
                weights, number = some_numbers(field, count, count), some_numbers(field, 1, "n")[0]
                told = by_hand(field, weights, number)
                self.assertEqual(turned_sum(field, weights, number), told)
                self.assertEqual(turned_sum(field, tuple(weights), number), told)
                self.assertEqual(len(weights), count)

    def test_by_naive_powers(self):
        for field in SMALL:
            known = naive.Numbers(field.rule(), field.prime())
            for number in known.all[:20]:
                weights = some_numbers(field, 3)
                total, turned = known.nought, number
                for weight in weights:
                    total = known.plus(total, known.times(weight, turned))
                    turned = known.power(turned, field.prime())
                self.assertEqual(turned_sum(field, weights, number), total)

    def test_none_is_nought(self):
        for field in SMALL + GREAT:
            for number in some_numbers(field, 3):
                self.assertEqual(turned_sum(field, [], number), field.plain(0))
                self.assertEqual(turned_sum(field, (), number), field.plain(0))

    def test_more_weights_than_turns(self):
        field = SMALL[2]
        for number in all_numbers(field):
            self.assertEqual(turned_sum(field, [field.plain(1)] * 60, number), field.plain(0))
            self.assertEqual(turned_sum(field, [field.plain(1)] * 59, number), field.turned(number))

    def test_bad_number(self):
        for field in SMALL[::4] + GREAT[::3]:
            good = field.plain(1)
            for bad in bad_numbers(field):
                self.refused(BadNumber, turned_sum, field, [bad], good)
                self.refused(BadNumber, turned_sum, field, (good, bad), good)
                self.refused(BadNumber, turned_sum, field, [good], bad)
                self.refused(BadNumber, turned_sum, field, [], bad)


class Answers(Case):
    def test_against_all_numbers(self):
        for field in SMALL:
            for count in range(6):
                for seed in range(3):
                    self.check_all(field, some_numbers(field, count, seed), some_numbers(field, 4, f"{count} {seed}"))

    def check_all(self, field, weights, wanteds):
        sums = {number: by_hand(field, weights, number) for number in all_numbers(field)}
        for wanted in wanteds + [field.plain(0)]:
            fit = {number for number, total in sums.items() if total == wanted}
            told = answers(field, weights, wanted)
            self.assertEqual(told, answers(field, tuple(weights), wanted))
            self.assertIs(type(told), tuple)
            if told[0] == "room":
                _, one, basis = told
                self.check_basis(field, basis)
                span = naive.span(basis, len(field), field.prime())
                self.assertEqual(fit, {field.plus(one, other) for other in span})
            else:
                self.assertEqual(fit, set())
                self.check_probe(field, told, sums.values(), wanted)

    def check_basis(self, field, basis):
        self.assertIs(type(basis), list)
        self.assertEqual(basis, stepped(basis, len(field), prime=field.prime()))

    def check_probe(self, field, told, sums, wanted):
        word, probe = told
        self.assertEqual(word, "barred")
        for total in sums:
            self.assertEqual(field.trace(field.times(probe, total)), 0)
        self.assertEqual(field.trace(field.times(probe, wanted)), 1)

    def test_weights_that_make_much_nought(self):
        for field in SMALL:
            one, less = field.plain(1), field.plain(field.prime() - 1)
            for weights in ([], [field.plain(0)], [less, one], [one] * len(field), [one, one], [less] + [field.plain(0)] * 2 + [one]):
                self.check_all(field, weights, all_numbers(field)[:20])

    def test_great_fields(self):
        kinds = set()
        for field in GREAT:
            one, less = field.plain(1), field.plain(field.prime() - 1)
            rows = [some_numbers(field, count, count) for count in range(6)] + [[less, one], [one] * len(field)]
            for weights in rows:
                numbers = some_numbers(field, 2, "w")
                for wanted in numbers + [by_hand(field, weights, number) for number in numbers]:
                    told = answers(field, weights, wanted)
                    kinds.add(told[0])
                    if told[0] == "room":
                        self.check_basis(field, told[2])
                        self.assertEqual(by_hand(field, weights, told[1]), wanted)
                        for number in told[2]:
                            self.assertEqual(by_hand(field, weights, number), field.plain(0))
                        self.assertEqual(len(told[2]), self.noughts(field, weights))
                    else:
                        sums = [by_hand(field, weights, field.nth(field.prime() ** at)) for at in range(len(field))]
                        self.check_probe(field, told, sums, wanted)
        self.assertEqual(kinds, {"room", "barred"})

    def noughts(self, field, weights):
        """How many numbers a basis of the noughts has: as many as the sums of all leave of the degree."""
        sums = [by_hand(field, weights, field.nth(field.prime() ** at)) for at in range(len(field))]
        return len(field) - len(stepped(sums, len(field), prime=field.prime()))

    def test_room_wherever_there_is_one(self):
        for field in GREAT:
            weights = [field.plain(field.prime() - 1), field.plain(1)]
            for number in some_numbers(field, 3):
                self.assertEqual(answers(field, weights, by_hand(field, weights, number))[0], "room")

    def test_each_told_list_is_a_new_one(self):
        field = SMALL[3]
        weights = [field.plain(1), field.plain(1)]
        told = answers(field, weights, field.plain(0))
        told[2].clear()
        self.assertEqual(len(answers(field, weights, field.plain(0))[2]), 1)
        self.assertEqual(weights, [field.plain(1), field.plain(1)])

    def test_bad_number(self):
        for field in SMALL[::4] + GREAT[::3]:
            good = field.plain(1)
            for bad in bad_numbers(field):
                self.refused(BadNumber, answers, field, [bad], good)
                self.refused(BadNumber, answers, field, (good, bad), good)
                self.refused(BadNumber, answers, field, [good], bad)
                self.refused(BadNumber, answers, field, (), bad)


class Differs(Case):
    def test_all_numbers_of_small_fields(self):
        for field in SMALL:
            walked = {field.minus(field.turned(number), number) for number in all_numbers(field)}
            for number in all_numbers(field):
                self.check(field, number, number in walked)

    def check(self, field, number, fits):
        word, told = differs(field, number)
        if fits:
            self.assertEqual(word, "less")
            self.assertEqual(field.minus(field.turned(told), told), number)
        else:
            self.assertEqual((word, told), ("trace", field.trace(number)))
            self.assertNotEqual(told, 0)

    def test_great_fields(self):
        for field in GREAT:
            for number in some_numbers(field, 4):
                self.check(field, number, field.trace(number) == 0)
                self.check(field, field.minus(field.turned(number), number), True)
                self.check(field, field.plain(0), True)

    def test_bad_number(self):
        for field in SMALL[::4] + GREAT[::3]:
            for bad in bad_numbers(field):
                self.refused(BadNumber, differs, field, bad)


class Shares(Case):
    def test_all_numbers_of_small_fields(self):
        for field in SMALL:
            walked = {
                field.times(field.turned(number), field.undone(number)) for number in all_numbers(field)[1:]
            }
            for number in all_numbers(field)[1:]:
                self.check(field, number, number in walked)

    def check(self, field, number, fits):
        word, told = shares(field, number)
        if fits:
            self.assertEqual(word, "over")
            self.assertEqual(field.times(field.turned(told), field.undone(told)), number)
        else:
            self.assertEqual((word, told), ("norm", field.norm(number)))
            self.assertNotEqual(told, 1)

    def test_great_fields(self):
        for field in GREAT:
            for number in some_numbers(field, 4):
                self.check(field, number, field.norm(number) == 1)
                self.check(field, field.times(field.turned(number), field.undone(number)), True)
            self.check(field, field.plain(1), True)

    def test_nought_and_bad_number(self):
        for field in SMALL + GREAT:
            self.refused(BadNumber, shares, field, field.plain(0))
        for field in SMALL[::4] + GREAT[::3]:
            for bad in bad_numbers(field):
                self.refused(BadNumber, shares, field, bad)


class Interface(Case):
    def test_names_of_what_is_handed_in(self):
        forms = {
            turned_sum: "(field, weights, number)", answers: "(field, weights, wanted)", differs: "(field, number)",
            shares: "(field, number)",
        }
        for action, form in forms.items():
            self.assertEqual(str(inspect.signature(action)), form)
            self.assertEqual(action.__module__, "rungfields.sums")

    def test_handed_in_by_name(self):
        field = SMALL[2]
        self.assertEqual(turned_sum(number=(0, 1), weights=[(0, 1)], field=field), (1, 1))
        self.assertEqual(answers(wanted=(1, 1), weights=[(0, 1)], field=field), ("room", (0, 1), []))
        self.assertEqual(differs(number=(0, 1), field=field), ("trace", 1))
        self.assertEqual(shares(number=(0, 1), field=field)[0], "over")

    def test_numbers_handed_in_stay(self):
        field = SMALL[5]
        for weights in itertools.product(some_numbers(field, 2), repeat=2):
            held = list(weights)
            answers(field, held, field.plain(1))
            turned_sum(field, held, field.plain(1))
            self.assertEqual(tuple(held), weights)


if __name__ == "__main__":
    unittest.main()
