"""Slow and plain arithmetic, held against the program's."""

import itertools
import random
import re

TERM = re.compile(r"(?P<rest>[1-9][0-9]*)?(?P<x>x(\^(?P<power>[1-9][0-9]*))?)?")


def all_polys(prime, most):
    """All polynomials of at most so many rests."""
    yield ()
    for count in range(1, most + 1):
        for rests in itertools.product(range(prime), repeat=count):
            if rests[-1] != 0:
                yield rests


def some_polys(prime, count, many, seed):
    """Some polynomials of just so many rests, the same in each run."""
    chance = random.Random(f"{prime} {count} {seed}")
    for _ in range(many):
        rests = [chance.randrange(prime) for _ in range(count)]
        if count > 0:
            rests[-1] = chance.randrange(1, prime)
        yield tuple(rests)


def cut(rests):
    rests = list(rests)
    while rests and rests[-1] == 0:
        rests.pop()
    return tuple(rests)


def plus(one, other, prime):
    pairs = itertools.zip_longest(one, other, fillvalue=0)
    return cut([(first + second) % prime for first, second in pairs])


def minus(one, other, prime):
    pairs = itertools.zip_longest(one, other, fillvalue=0)
    return cut([(first - second) % prime for first, second in pairs])


def times(one, other, prime):
    sums = {}
    for low, first in enumerate(one):
        for high, second in enumerate(other):
            sums[low + high] = sums.get(low + high, 0) + first * second
    return cut([sums.get(power, 0) % prime for power in range(len(one) + len(other))])


def left(one, rule, prime):
    """What is left, by taking the rule away as often as it goes."""
    one = list(one)
    while len(one := list(cut(one))) >= len(rule):
        shift = len(one) - len(rule)
        while one[-1] != 0:
            for place, rest in enumerate(rule):
                one[shift + place] = (one[shift + place] - rest) % prime
    return tuple(one)


def value(one, number, prime):
    return sum(rest * number**power for power, rest in enumerate(one)) % prime


def power(one, exponent, prime):
    told = (1,)
    for _ in range(exponent):
        told = times(told, one, prime)
    return told


def put(one, other, prime):
    total = ()
    for place, rest in enumerate(one):
        total = plus(total, times((rest,), power(other, place, prime), prime), prime)
    return total


def read(text, prime):
    """The polynomial of a text, or None, by a pattern for each of its terms."""
    if text == "0":
        return ()
    rests = {}
    for word in text.split(" + "):
        match = TERM.fullmatch(word)
        if match is None or word == "" or word.startswith("1x"):
            return None
        rest = int(match["rest"] or 1)
        at = 0 if match["x"] is None else int(match["power"] or 1)
        if rest >= prime or at > 24 or match["power"] == "1" or (rests and at <= max(rests)):
            return None
        rests[at] = rest
    return tuple(rests.get(at, 0) for at in range(max(rests) + 1))


def level_polys(prime, degree):
    """All level polynomials of a degree, in the order of tuples."""
    for rests in itertools.product(range(prime), repeat=degree):
        yield rests + (1,)


def sieve(prime, most):
    """For each degree all level whole polynomials, by striking out all products."""
    struck = set()
    for low in range(1, most // 2 + 1):
        for high in range(low, most - low + 1):
            for one in level_polys(prime, low):
                for other in level_polys(prime, high):
                    struck.add(times(one, other, prime))
    return {
        degree: [poly for poly in level_polys(prime, degree) if poly not in struck]
        for degree in range(1, most + 1)
    }


def parted(one, rule, prime):
    """Quotient and rest by a level rule."""
    quotient = [0] * max(0, len(one) - len(rule) + 1)
    rests = list(one)
    for place in reversed(range(len(quotient))):
        share = rests[place + len(rule) - 1]
        quotient[place] = share
        for shift, rest in enumerate(rule):
            rests[place + shift] = (rests[place + shift] - share * rest) % prime
    return cut(quotient), cut(rests)


def parts(poly, prime, wholes):
    """The level whole parts with their counts, by trying all of the degrees that are told."""
    told = []
    for degree in sorted(wholes):
        for part in wholes[degree]:
            count = 0
            while len(poly) >= len(part) and parted(poly, part, prime)[1] == ():
                poly = parted(poly, part, prime)[0]
                count += 1
            if count > 0:
                told.append((part, count))
    return told


def product(told, prime):
    """The product of parts with their counts."""
    poly = (1,)
    for part, count in told:
        for _ in range(count):
            poly = times(poly, part, prime)
    return poly


def weigh(row, other, prime):
    return sum(one * by for one, by in zip(row, other)) % prime


def made(weights, rows, width, prime):
    """The sum of rows, each times its weight."""
    return tuple(
        sum(weight * row[place] for weight, row in zip(weights, rows)) % prime
        for place in range(width)
    )


def span(rows, width, prime):
    """All sums of rows."""
    return {
        made(weights, rows, width, prime)
        for weights in itertools.product(range(prime), repeat=len(rows))
    }


class Numbers:
    """The numbers of a field, all of them gone through."""

    def __init__(self, rule, prime):
        self.rule = rule
        self.prime = prime
        self.width = len(rule) - 1
        self.unit = (1,) + (0,) * (self.width - 1)
        self.nought = (0,) * self.width
        self.all = sorted(itertools.product(range(prime), repeat=self.width))

    def number(self, poly):
        told = left(poly, self.rule, self.prime)
        return told + (0,) * (self.width - len(told))

    def plus(self, one, other):
        return self.number(plus(one, other, self.prime))

    def minus(self, one, other):
        return self.number(minus(one, other, self.prime))

    def times(self, one, other):
        return self.number(times(one, other, self.prime))

    def power(self, number, exponent):
        told = self.unit
        for _ in range(exponent):
            told = self.times(told, number)
        return told

    def turned(self, number, steps=1):
        for _ in range(steps):
            number = self.power(number, self.prime)
        return number

    def undone(self, number):
        return next(other for other in self.all if self.times(number, other) == self.unit)

    def value(self, poly, number):
        """What a polynomial over rests is at a number."""
        total = self.nought
        for place, rest in enumerate(poly):
            scaled = tuple(rest * own % self.prime for own in self.power(number, place))
            total = self.plus(total, scaled)
        return total


def own_rules(prime, most):
    """For each degree the first whole level polynomial."""
    return {degree: wholes[0] for degree, wholes in sieve(prime, most).items()}


def own_images(prime, most):
    """For each two degrees of which one divides the other the image, all numbers gone through."""
    rules = own_rules(prime, most)
    images = {}
    for high in range(1, most + 1):
        known = Numbers(rules[high], prime)
        images[high, high] = known.number((0, 1))
        for low in range(1, high):
            if high % low == 0:
                images[low, high] = next(
                    number for number in known.all
                    if known.value(rules[low], number) == known.nought
                    and all(
                        known.value(images[lesser, low], number) == images[lesser, high]
                        for lesser in range(2, low)
                        if low % lesser == 0
                    )
                )
    return images
