"""Slow and plain arithmetic, held against the program's."""

import itertools
import random
import re

TERM = re.compile(r"(?P<rest>[1-9][0-9]*)?(?P<x>x(\^(?P<power>[1-9][0-9]*))?)?")


def all_polys(prime, most):
    """All polynomials of at most so many rests."""
    yield ()
    for count in range(1, most + 1):
        for rests in itertools.product(range(prime), repeat=count):
            if rests[-1] != 0:
                yield rests


def some_polys(prime, count, many, seed):
    """Some polynomials of just so many rests, the same in each run."""
    chance = random.Random(f"{prime} {count} {seed}")
    for _ in range(many):
        rests = [chance.randrange(prime) for _ in range(count)]
        if count > 0:
            rests[-1] = chance.randrange(1, prime)
        yield tuple(rests)


def cut(rests):
    rests = list(rests)
    while rests and rests[-1] == 0:
        rests.pop()
    return tuple(rests)


def plus(one, other, prime):
    pairs = itertools.zip_longest(one, other, fillvalue=0)
    return cut([(first + second) % prime for first, second in pairs])


def minus(one, other, prime):
    pairs = itertools.zip_longest(one, other, fillvalue=0)
    return cut([(first - second) % prime for first, second in pairs])


def times(one, other, prime):
    sums = {}
    for low, first in enumerate(one):
        for high, second in enumerate(other):
            sums[low + high] = sums.get(low + high, 0) + first * second
    return cut([sums.get(power, 0) % prime for power in range(len(one) + len(other))])


def left(one, rule, prime):
    """What is left, by taking the rule away as often as it goes."""
    one = list(one)
    while len(one := list(cut(one))) >= len(rule):
        shift = len(one) - len(rule)
        while one[-1] != 0:
            for place, rest in enumerate(rule):
                one[shift + place] = (one[shift + place] - rest) % prime
    return tuple(one)


def value(one, number, prime):
    return sum(rest * number**power for power, rest in enumerate(one)) % prime


def power(one, exponent, prime):
    told = (1,)
    for _ in range(exponent):
        told = times(told, one, prime)
    return told


def put(one, other, prime):
    total = ()
    for place, rest in enumerate(one):
        total = plus(total, times((rest,), power(other, place, prime), prime), prime)
    return total


def read(text, prime):
    """The polynomial of a text, or None, by a pattern for each of its terms."""
    if text == "0":
        return ()
    rests = {}
    for word in text.split(" + "):
        match = TERM.fullmatch(word)
        if match is None or word == "" or word.startswith("1x"):
            return None
        rest = int(match["rest"] or 1)
        at = 0 if match["x"] is None else int(match["power"] or 1)
        if rest >= prime or at > 24 or match["power"] == "1" or (rests and at <= max(rests)):
            return None
        rests[at] = rest
    return tuple(rests.get(at, 0) for at in range(max(rests) + 1))
