"""The tower: a prime's own fields, the leadings among them, and numbers of all of them alike."""

from math import gcd, lcm

from rungfields.errors import BadDegree, NotWithin, TooTall
from rungfields.fields import Field
from rungfields.leadings import Leading
from rungfields.parting import raw_parts, refuse_nought_poly
from rungfields.raw import raw_level
from rungfields.raw_field import refuse_numbers
from rungfields.raw_over import raw_built
from rungfields.rests import LEAST, refuse_prime
from rungfields.roots import raw_root, raw_roots
from rungfields.whole import MOST_DEGREE, least_whole, refuse_degree


def refuse_beyond(low, high):
    """Refuse a degree that doesn't divide another one."""
    if high % low != 0:
        raise NotWithin()


def refuse_tall(degree):
    """Refuse a degree that no own field has."""
    if degree > MOST_DEGREE:
        raise TooTall(degree)


def split_degree(told):
    """The least degree of an own field in which some whole parts have all their roots."""
    degree = 1
    for part, _ in told:
        degree = lcm(degree, len(part) - 1)
    refuse_tall(degree)
    return degree


class Tower:
    """All own fields of a prime as one arithmetic; its numbers are pairs of degree and rests."""

    def __init__(self, *, prime=LEAST):
        refuse_prime(prime)
        self._prime = prime
        # kept once they are asked for; what they are doesn't hang on what was asked for before
        self._fields = {}
        self._leads = {}

    def prime(self):
        """The prime."""
        return self._prime

    def own(self, degree):
        """The own field of a degree."""
        refuse_degree(degree)
        if degree not in self._fields:
            rule = least_whole(degree, prime=self._prime)
            self._fields[degree] = Field(rule, prime=self._prime)
        return self._fields[degree]

    def lead(self, low, high):
        """The own leading of a degree into one that it divides."""
        refuse_degree(low)
        refuse_degree(high)
        refuse_beyond(low, high)
        if (low, high) not in self._leads:
            image = self._own_image(low, high)
            self._leads[(low, high)] = Leading(self.own(low), self.own(high), image)
        return self._leads[(low, high)]

    def _own_image(self, low, high):
        """The number to which the own leading leads x."""
        raw = self.own(high).raw
        if low == high:
            return raw.x_power(1)
        images = raw_roots(raw, self.own(low).rule())
        return min([image for image in images if self._goes_with_lesser(image, low, high)])

    def _goes_with_lesser(self, image, low, high):
        """Whether leading by an image comes to the same as all lesser own leadings."""
        raw = self.own(high).raw
        for lesser in range(2, low):
            if low % lesser == 0:
                between = self.lead(lesser, low).image()
                if raw.value(between, image) != self.lead(lesser, high).image():
                    return False
        return True

    def _field_of(self, number):
        """The own field of a pair; what is no pair is refused."""
        if not isinstance(number, tuple) or len(number) != 2:
            raise BadDegree()
        field = self.own(number[0])
        refuse_numbers(field.raw, (number[1],))
        return field

    def _homed(self, field, rests):
        """The home of an own field's number."""
        degree = len(field.raw.orbit(rests))
        return degree, self.lead(degree, len(field)).back(rests)

    def _met(self, one, other):
        """The least own field that holds two homes, and both as its numbers."""
        degree = lcm(one[0], other[0])
        refuse_tall(degree)
        first = self.lead(one[0], degree).to(one[1])
        second = self.lead(other[0], degree).to(other[1])
        return self.own(degree), first, second

    def home(self, number):
        """The pair of the least degree that is alike."""
        return self._homed(self._field_of(number), number[1])

    def raised(self, number, degree):
        """The pair of a degree that is alike."""
        low, rests = self.home(number)
        return degree, self.lead(low, degree).to(rests)

    def alike(self, one, other):
        """Whether two pairs are one number."""
        return self.home(one) == self.home(other)

    def plus(self, one, other):
        """The sum of two pairs."""
        field, first, second = self._met(self.home(one), self.home(other))
        return self._homed(field, field.raw.plus(first, second))

    def minus(self, one, other):
        """A pair less another one."""
        field, first, second = self._met(self.home(one), self.home(other))
        return self._homed(field, field.raw.minus(first, second))

    def times(self, one, other):
        """The product of two pairs."""
        field, first, second = self._met(self.home(one), self.home(other))
        return self._homed(field, field.raw.times(first, second))

    def over(self, one, other):
        """A pair divided by another one."""
        first = self.home(one)
        return self.times(first, self.undone(other))

    def undone(self, number):
        """What times a pair is 1."""
        degree, rests = self.home(number)
        return degree, self.own(degree).undone(rests)

    def power(self, number, exponent):
        """A pair's power; below nought that of what times the pair is 1."""
        field = self._field_of(number)
        return self._homed(field, field.power(number[1], exponent))

    def turned(self, number, *, steps=1):
        """A pair turned some times, back where below nought."""
        degree, rests = self.home(number)
        return degree, self.own(degree).turned(rests, steps=steps)

    def trace(self, number, *, low=1):
        """The sum of a pair's turns by a degree that divides its own."""
        field = self._field_above(number, low)
        return self._homed(field, field.raw.turn_sum(number[1], low))

    def norm(self, number, *, low=1):
        """The product of a pair's turns by a degree that divides its own."""
        field = self._field_above(number, low)
        return self._homed(field, field.raw.turn_product(number[1], low))

    def _field_above(self, number, low):
        """The own field of a pair, whose degree another one divides."""
        field = self._field_of(number)
        refuse_degree(low)
        refuse_beyond(low, len(field))
        return field

    def least(self, number):
        """The level polynomial over rests of least degree at which a pair is a root."""
        return self._field_of(number).least(number[1])

    def _whole_parts(self, poly):
        """The level whole parts of a polynomial over rests, with their counts."""
        refuse_nought_poly(poly, self._prime)
        return raw_parts(raw_level(poly, self._prime), self._prime)

    def splits(self, poly):
        """The least degree of an own field in which a polynomial over rests parts wholly."""
        return split_degree(self._whole_parts(poly))

    def roots(self, poly):
        """All roots of a polynomial over rests, rising, with their counts."""
        whole = self._whole_parts(poly)
        split_degree(whole)
        told = []
        for part, count in whole:
            degree = len(part) - 1
            told += [((degree, number), count) for number in raw_roots(self.own(degree).raw, part)]
        return sorted(told)

    def parts(self, poly, degree):
        """The level whole parts of a polynomial over rests over an own field, with their counts."""
        whole = self._whole_parts(poly)
        refuse_degree(degree)
        told = []
        for part, count in whole:
            refuse_tall(len(part) - 1)
            told += [(smaller, count) for smaller in self._parts_over(part, degree)]
        return sorted(told, key=lambda row: (len(row[0]), row[0]))

    def _parts_over(self, part, degree):
        """The parts over an own field of what is whole over rests."""
        own = len(part) - 1
        raw = self.own(own).raw
        # of the roots, each a turn of one, those that turns by the degree join are of one part
        step = gcd(own, degree)
        first = raw_root(raw, part)
        told = []
        for shift in range(step):
            joined = [raw.turned(first, turns) for turns in range(shift, own, step)]
            told.append(self._carried(raw_built(raw, joined), self.lead(step, own), self.lead(step, degree)))
        return told

    def _carried(self, numbers, back, to):
        """Numbers brought back by one leading and led on by another."""
        return tuple([to.to(back.back(number)) for number in numbers])

    def __eq__(self, other):
        return isinstance(other, Tower) and self._prime == other._prime

    def __repr__(self):
        return f"Tower(by {self._prime})"
