"""rungfields.guests: promises [2], [19] and of [25] equality."""

import inspect
import itertools
import random
import unittest

import naive
from rungfields.errors import BadDegree, BadNumber, BadPoly, BadRule, NotWhole, NotWithin, Outside, Unfit
from rungfields.fields import Field
from rungfields.guests import Guest, meeting
from rungfields.leadings import Leading
from rungfields.towers import Tower
from rungfields.whole import is_whole, least_whole

FORTY = 10**39 + 12345


def some_rule(prime, degree, seed=0):
    """Some rule of a degree, the same in each run."""
    chance = random.Random(f"{prime} {degree} {seed}")
    while True:
        rule = tuple(chance.randrange(prime) for _ in range(degree)) + (1,)
        if is_whole(rule, prime=prime):
            return rule


def some_numbers(field, many):
    chance = random.Random(f"{field!r}")
    return [field.nth(chance.randrange(field.size())) for _ in range(many)]


class Case(unittest.TestCase):
    def refused(self, error, action, *told):
        with self.assertRaises(error) as caught:
            action(*told)
        self.assertEqual(caught.exception.word, error.__name__)
        return caught.exception


class Made(Case):
    def test_what_it_is_made_of(self):
        for prime, degree in itertools.product((2, 3, 97), range(1, 13)):
            tower, rule = Tower(prime=prime), some_rule(prime, degree)
            guest = Guest(tower, rule)
            self.assertIs(guest.tower(), tower)
            self.assertEqual(guest.field(), Field(rule, prime=prime))
            self.assertEqual(len(guest), degree)
            self.assertEqual(repr(guest), f"Guest({guest.field()!s} by {prime})")
            self.assertIsInstance(guest.lead(), Leading)
            self.assertEqual((guest.lead().low(), guest.lead().high()), (guest.field(), tower.own(degree)))

    def test_plain_one(self):
        guest = Guest(Tower(), (1, 1, 1))
        self.assertEqual(repr(guest), "Guest(1 + x + x^2 by 2)")
        self.assertEqual(len(guest), 2)
        self.assertEqual(guest.lead().image(), (0, 1))

    def test_image_is_the_least_root(self):
        for prime, most in ((2, 6), (3, 4), (5, 2), (13, 1)):
            tower = Tower(prime=prime)
            for degree, wholes in naive.sieve(prime, most).items():
                own = naive.Numbers(tower.own(degree).rule(), prime)
                for rule in wholes:
                    least = next(number for number in own.all if own.value(rule, number) == own.nought)
                    self.assertEqual(Guest(tower, rule).lead().image(), least)

    def test_image_in_great_fields(self):
        for prime, degree in ((97, 12), (2, 12), (61, 6), (3, 11)):
            tower, rule = Tower(prime=prime), some_rule(prime, degree, 1)
            image = Guest(tower, rule).lead().image()
            own = tower.own(degree)
            self.assertEqual(own.least(image), rule)
            self.assertEqual(image, min(own.turned(image, steps=steps) for steps in range(degree)))

    def test_the_own_rule_as_a_guest(self):
        # the least root of the own rule needn't be x
        for prime, degree in itertools.product((2, 3, 7), range(1, 13)):
            tower = Tower(prime=prime)
            own = tower.own(degree)
            guest = Guest(tower, own.rule())
            x = (0, 1) + (0,) * (degree - 2) if degree > 1 else (0,)
            self.assertEqual(guest.lead().image(), min(own.turned(x, steps=steps) for steps in range(degree)))

    def test_refusals_of_a_rule(self):
        tower = Tower(prime=5)
        for rule in ((1, 0), (5, 1), (-1, 1), (True, 1), (1, True), (1,) * 26, (FORTY, 1), (0,)):
            self.refused(BadPoly, Guest, tower, rule)
        for rule in ((), (1,), (2,), (1, 2), (1, 0, 3), (1,) + (0,) * 12 + (1,), (0,) * 24 + (1,), (0, 0, 2)):
            self.refused(BadRule, Guest, tower, rule)
        for rule, part in (((1, 0, 1), (2, 1)), ((0, 0, 1), (0, 1)), ((4, 0, 0, 0, 1), (1, 1)), ((0,) * 12 + (1,), (0, 1))):
            self.assertEqual(self.refused(NotWhole, Guest, tower, rule).part, part)


class InAndOut(Case):
    def test_there_and_back_all_numbers(self):
        for prime, most in ((2, 4), (3, 2), (5, 2)):
            tower = Tower(prime=prime)
            for degree, wholes in naive.sieve(prime, most).items():
                for rule in wholes:
                    guest = Guest(tower, rule)
                    for at in range(guest.field().size()):
                        self.check(guest, guest.field().nth(at))

    def check(self, guest, number):
        degree = len(guest)
        inside = guest.inward(number)
        self.assertEqual(inside, guest.tower().home((degree, guest.lead().to(number))))
        self.assertEqual(inside[0], guest.field().degree(number))
        self.assertEqual(guest.outward(inside), number)
        self.assertEqual(guest.outward(guest.tower().raised(inside, degree)), number)
        for high in range(inside[0], 13, inside[0]):
            if high <= 4 or high == 12:
                self.assertEqual(guest.outward(guest.tower().raised(inside, high)), number)

    def test_great_ones(self):
        for prime, degree in ((2, 12), (97, 6), (97, 12), (13, 8), (31, 9), (3, 10)):
            guest = Guest(Tower(prime=prime), some_rule(prime, degree))
            for number in some_numbers(guest.field(), 4):
                self.check(guest, number)
            for rest in (0, 1, prime - 1):
                self.assertEqual(guest.inward(guest.field().plain(rest)), (1, (rest,)))
                self.assertEqual(guest.outward((1, (rest,))), guest.field().plain(rest))

    def test_all_pairs_of_lesser_fields_come_out(self):
        tower = Tower(prime=2)
        guest = Guest(tower, some_rule(2, 12))
        for degree in (1, 2, 3, 4, 6):
            for at in range(tower.own(degree).size()):
                pair = degree, tower.own(degree).nth(at)
                self.assertEqual(guest.inward(guest.outward(pair)), tower.home(pair))

    def test_sums_and_products_stay(self):
        for prime, degree in ((2, 6), (5, 4), (97, 12)):
            guest = Guest(Tower(prime=prime), some_rule(prime, degree))
            field, tower = guest.field(), guest.tower()
            for one, other in itertools.product(some_numbers(field, 4), repeat=2):
                first, second = guest.inward(one), guest.inward(other)
                self.assertEqual(guest.inward(field.plus(one, other)), tower.plus(first, second))
                self.assertEqual(guest.inward(field.times(one, other)), tower.times(first, second))

    def test_outside(self):
        tower = Tower(prime=3)
        for degree in range(1, 13):
            guest = Guest(tower, some_rule(3, degree))
            for other in range(2, 13):
                x = (other, (0, 1) + (0,) * (other - 2))
                if degree % other == 0:
                    self.assertEqual(guest.inward(guest.outward(x)), x)
                else:
                    self.refused(Outside, guest.outward, x)

    def test_bad_number_inward(self):
        guest = Guest(Tower(prime=5), some_rule(5, 3))
        for number in ((), (0, 0), (0, 0, 0, 0), (0, 0, 5), (-1, 0, 0), (True, 0, 0), (0, False, 0), (FORTY, 0, 0)):
            self.refused(BadNumber, guest.inward, number)

    def test_bad_pairs_outward(self):
        guest = Guest(Tower(prime=5), some_rule(5, 3))
        for pair in ((0, ()), (13, (0,) * 13), (-1, ()), (True, (0,)), (FORTY, (0,)), (0, (0, 5))):
            self.refused(BadDegree, guest.outward, pair)
        for pair in ((2, (0,)), (2, (0, 5)), (2, (0, True)), (12, ()), (7, (0, 1)), (2, (1, 1, 1)), (1, (-1,))):
            self.refused(BadNumber, guest.outward, pair)


class Meeting(Case):
    def test_by_own_fields(self):
        for prime in (2, 3, 97):
            tower = Tower(prime=prime)
            for low, high in itertools.product((1, 2, 3, 4, 6, 12), repeat=2):
                if high % low == 0:
                    one, other = Guest(tower, some_rule(prime, low)), Guest(tower, some_rule(prime, high, 1))
                    leading = meeting(one, other)
                    self.assertEqual((leading.low(), leading.high()), (one.field(), other.field()))
                    for number in some_numbers(one.field(), 4):
                        self.assertEqual(leading.to(number), other.outward(one.inward(number)))

    def test_put_together_and_at_once(self):
        for prime in (2, 5, 59):
            tower = Tower(prime=prime)
            for row in ((1, 2, 4), (2, 6, 12), (3, 3, 6), (2, 4, 12), (4, 4, 4), (3, 6, 12), (1, 11, 11), (2, 2, 10)):
                one, two, three = [Guest(tower, some_rule(prime, degree, at)) for at, degree in enumerate(row)]
                self.assertEqual(meeting(one, two).then(meeting(two, three)), meeting(one, three))

    def test_a_guest_and_itself(self):
        guest = Guest(Tower(prime=3), some_rule(3, 4))
        self.assertEqual(meeting(guest, guest).image(), (0, 1, 0, 0))
        other = Guest(Tower(prime=3), some_rule(3, 4, 1))
        both = meeting(guest, other).then(meeting(other, guest))
        self.assertEqual(both.image(), (0, 1, 0, 0))

    def test_equal_towers_that_are_not_the_same_thing(self):
        one, other = Guest(Tower(prime=3), some_rule(3, 2)), Guest(Tower(prime=3), some_rule(3, 6))
        self.assertEqual(repr(meeting(one, other)), "Leading(2 to 6)")

    def test_unfit_ahead_of_not_within(self):
        for low, high in ((2, 4), (4, 2), (3, 3), (1, 12), (5, 7)):
            one, other = Guest(Tower(prime=2), some_rule(2, low)), Guest(Tower(prime=3), some_rule(3, high))
            self.refused(Unfit, meeting, one, other)
            self.refused(Unfit, meeting, other, one)

    def test_not_within(self):
        tower = Tower(prime=3)
        guests = [Guest(tower, some_rule(3, degree)) for degree in range(1, 13)]
        for one, other in itertools.product(guests, repeat=2):
            if len(other) % len(one) != 0:
                self.refused(NotWithin, meeting, one, other)


class Equal(Case):
    def test_of_equal_fields(self):
        for prime, degree in ((2, 3), (3, 2), (97, 12)):
            rule = some_rule(prime, degree)
            one, other = Guest(Tower(prime=prime), rule), Guest(Tower(prime=prime), tuple(list(rule)))
            self.assertTrue(one == other)
            self.assertFalse(one != other)

    def test_of_unlike_ones(self):
        guests = [
            Guest(Tower(prime=prime), rule)
            for prime, rule in (
                (2, (0, 1)), (2, (1, 1)), (3, (0, 1)), (3, (1, 1)), (2, (1, 1, 0, 1)), (2, (1, 0, 1, 1)), (3, (1, 0, 1)),
                (7, (1, 0, 1)), (3, (2, 1, 1)),
            )
        ]
        for one, other in itertools.permutations(guests, 2):
            self.assertFalse(one == other)
            self.assertTrue(one != other)

    def test_of_other_things(self):
        guest = Guest(Tower(), (1, 1, 1))
        for other in (guest.field(), guest.tower(), guest.lead(), (1, 1, 1), "Guest(1 + x + x^2 by 2)", 2, None, []):
            self.assertFalse(guest == other)
            self.assertTrue(guest != other)
            self.assertFalse(other == guest)


class Interface(Case):
    def test_names_of_what_is_handed_in(self):
        self.assertEqual(str(inspect.signature(Guest)), "(tower, rule)")
        self.assertEqual(str(inspect.signature(meeting)), "(one, other)")
        self.assertEqual((Guest.__module__, meeting.__module__), ("rungfields.guests",) * 2)
        forms = {
            "tower": "(self)", "field": "(self)", "lead": "(self)", "inward": "(self, number)",
            "outward": "(self, number)",
        }
        for name, form in forms.items():
            self.assertEqual(str(inspect.signature(vars(Guest)[name])), form)
        for name in ("__len__", "__repr__", "__eq__"):
            self.assertIn(name, vars(Guest))

    def test_handed_in_by_name(self):
        tower = Tower(prime=3)
        guest = Guest(rule=(2, 1, 1), tower=tower)
        self.assertEqual(guest.outward(number=guest.inward(number=(1, 2))), (1, 2))
        other = Guest(tower, least_whole(4, prime=3))
        self.assertEqual(meeting(other=other, one=guest), meeting(guest, other))


if __name__ == "__main__":
    unittest.main()
