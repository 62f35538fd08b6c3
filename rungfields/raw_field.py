"""Arithmetic of a field's numbers that does not look at what is handed in."""

from rungfields.errors import BadNumber
from rungfields.powers import power_by
from rungfields.raw import padded, raw_left, raw_undone, trimmed, turn_rows, weighed
from rungfields.rests import is_rest


def refuse_numbers(raw, told):
    """Refuse what is no number of a field among some."""
    for number in told:
        if not raw.has(number):
            raise BadNumber()


class RawField:
    """The field of a rule, its numbers the tuples of as many rests as its width."""

    def __init__(self, rule, prime):
        self.divisor = rule
        self.base = prime
        self.width = len(rule) - 1
        self.nought = (0,) * self.width
        self.unit = self.plain(1)
        self.turn_table = turn_rows(rule, prime)
        self.high_table = [self.x_power(power) for power in range(self.width, 2 * self.width - 1)]

    def x_power(self, power):
        """The number that a power of x is."""
        return padded(raw_left((0,) * power + (1,), self.divisor, self.base), self.width)

    def has(self, told):
        """Whether something is one of the field's numbers."""
        if not isinstance(told, tuple) or len(told) != self.width:
            return False
        return all([is_rest(rest, self.base) for rest in told])

    def plain(self, rest):
        """The number that a rest is."""
        return (rest,) + (0,) * (self.width - 1)

    def plus(self, one, other):
        """The sum of two numbers."""
        return tuple([(rest + by) % self.base for rest, by in zip(one, other)])

    def minus(self, one, other):
        """A number less another one."""
        return tuple([(rest - by) % self.base for rest, by in zip(one, other)])

    def times(self, one, other):
        """The product of two numbers."""
        sums = [0] * (2 * self.width - 1)
        for low, rest in enumerate(one):
            if rest != 0:
                for high, by in enumerate(other):
                    sums[low + high] += rest * by
        return weighed(sums[self.width:], self.high_table, sums[:self.width], self.base)

    def undone(self, number):
        """What times a number, which isn't nought, is 1."""
        return padded(raw_undone(trimmed(number), self.divisor, self.base), self.width)

    def power(self, number, exponent):
        """A number's power; the exponent isn't below nought."""
        return power_by(lambda first, second: self.times(first, second), self.unit, number, exponent)

    def turned(self, number, steps):
        """A number turned some times; back where they are below nought."""
        for _ in range(steps % self.width):
            number = weighed(number, self.turn_table, self.nought, self.base)
        return number

    def turns(self, number):
        """A number and its turns, as many as the field has rests in a number."""
        told = [number]
        for _ in range(self.width - 1):
            told.append(self.turned(told[-1], 1))
        return told

    def orbit(self, number):
        """The unlike ones among a number and its turns."""
        told = [number]
        turn = self.turned(number, 1)
        while turn != number:
            told.append(turn)
            turn = self.turned(turn, 1)
        return told

    def turn_sum(self, number, degree):
        """The sum of a number's turns by a degree that divides the width."""
        total = self.nought
        for _ in range(self.width // degree):
            total = self.plus(total, number)
            number = self.turned(number, degree)
        return total

    def turn_product(self, number, degree):
        """The product of a number's turns by a degree that divides the width."""
        total = self.unit
        for _ in range(self.width // degree):
            total = self.times(total, number)
            number = self.turned(number, degree)
        return total

    def powers(self, number, count):
        """The first powers of a number, that to 0 ahead."""
        told = [self.unit]
        for _ in range(count - 1):
            told.append(self.times(told[-1], number))
        return told

    def value(self, poly, number):
        """What a polynomial over rests is at a number."""
        value = self.nought
        for rest in reversed(poly):
            value = self.plus(self.times(value, number), self.plain(rest))
        return value
