"""Fields: the numbers that whole rules make of a prime's rests."""

from rungfields.errors import BadNumber, BadRule, NoInverse, NotWhole
from rungfields.parting import first_part
from rungfields.polys import refuse_polys, written
from rungfields.raw_field import RawField, refuse_numbers
from rungfields.raw_over import raw_built
from rungfields.rests import LEAST, is_number, refuse_rest
from rungfields.whole import MOST_DEGREE, raw_whole


def refuse_rule(rule, prime):
    """Refuse what is no rule of a field."""
    refuse_polys((rule,), prime)
    if not 2 <= len(rule) <= MOST_DEGREE + 1 or rule[-1] != 1:
        raise BadRule()
    if not raw_whole(rule, prime):
        raise NotWhole(first_part(rule, prime))


def refuse_count(told):
    """Refuse what is no whole number."""
    if not is_number(told):
        raise BadNumber()


class Field:
    """The field of a level whole rule of degree 1 to 12; its numbers are tuples of as many rests."""

    def __init__(self, rule, *, prime=LEAST):
        refuse_rule(rule, prime)
        self._rule = rule
        self._prime = prime
        # arithmetic for the package's use: it looks at nothing that is handed in
        self.raw = RawField(rule, prime)
        self._size = 1
        for _ in self.raw.unit:
            self._size *= prime

    def rule(self):
        """The rule."""
        return self._rule

    def prime(self):
        """The prime."""
        return self._prime

    def size(self):
        """How many numbers there are."""
        return self._size

    def plain(self, rest):
        """The number that a rest is."""
        refuse_rest(rest, self._prime)
        return self.raw.plain(rest)

    def plus(self, one, other):
        """The sum of two numbers."""
        refuse_numbers(self.raw, (one, other))
        return self.raw.plus(one, other)

    def minus(self, one, other):
        """A number less another one."""
        refuse_numbers(self.raw, (one, other))
        return self.raw.minus(one, other)

    def times(self, one, other):
        """The product of two numbers."""
        refuse_numbers(self.raw, (one, other))
        return self.raw.times(one, other)

    def undone(self, number):
        """What times a number is 1."""
        refuse_numbers(self.raw, (number,))
        if number == self.raw.nought:
            raise NoInverse()
        return self.raw.undone(number)

    def power(self, number, exponent):
        """A number's power; below nought that of what times the number is 1."""
        refuse_numbers(self.raw, (number,))
        refuse_count(exponent)
        if number == self.raw.nought:
            if exponent < 0:
                raise NoInverse()
            return self.raw.unit if exponent == 0 else number
        # the powers of a number but nought come round after as many steps as there are such
        return self.raw.power(number, exponent % (self._size - 1))

    def turned(self, number, *, steps=1):
        """A number turned some times, back where below nought."""
        refuse_numbers(self.raw, (number,))
        refuse_count(steps)
        return self.raw.turned(number, steps)

    def degree(self, number):
        """The least count of turns, 1 at least, that leave a number as it is."""
        refuse_numbers(self.raw, (number,))
        return len(self.raw.orbit(number))

    def least(self, number):
        """The level polynomial over rests of least degree at which a number is a root."""
        refuse_numbers(self.raw, (number,))
        told = raw_built(self.raw, self.raw.orbit(number))
        return tuple([plain[0] for plain in told])

    def trace(self, number):
        """The sum of a number's turns, a rest."""
        refuse_numbers(self.raw, (number,))
        return self.raw.turn_sum(number, 1)[0]

    def norm(self, number):
        """The product of a number's turns, a rest."""
        refuse_numbers(self.raw, (number,))
        return self.raw.turn_product(number, 1)[0]

    def place(self, number):
        """The place of a number: the sum of its rests, each times the prime to its place."""
        refuse_numbers(self.raw, (number,))
        place = 0
        for rest in reversed(number):
            place = place * self._prime + rest
        return place

    def nth(self, at):
        """The number at a place."""
        refuse_count(at)
        if not 0 <= at < self._size:
            raise BadNumber()
        rests = []
        for _ in self.raw.unit:
            rests.append(at % self._prime)
            at //= self._prime
        return tuple(rests)

    def __len__(self):
        return len(self.raw.unit)

    def __eq__(self, other):
        return isinstance(other, Field) and self._rule == other._rule and self._prime == other._prime

    def __repr__(self):
        return f"Field({written(self._rule)} by {self._prime})"

    def __str__(self):
        return str(written(self._rule))
