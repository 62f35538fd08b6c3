"""The rests of a prime, and what is done with one of them."""

from rungfields.errors import BadPrime, BadRest, NoInverse
from rungfields.powers import power_by

PRIMES = (2, 3, 5, 7, 11, 13, 17, 19, 23, 29, 31, 37, 41, 43, 47, 53, 59, 61, 67, 71, 73, 79, 83, 89, 97)
LEAST = 2


def is_prime(number):
    """Whether a number is one of PRIMES."""
    return number in PRIMES


def is_number(told):
    """Whether something is a whole number."""
    # to Python True and False are whole numbers, too
    return isinstance(told, int) and not isinstance(told, bool)


def is_rest(told, prime):
    """Whether something is a rest of a prime."""
    return is_number(told) and 0 <= told < prime


def refuse_prime(prime):
    """Refuse what is none of PRIMES."""
    if not is_prime(prime):
        raise BadPrime()


def refuse_rest(number, prime):
    """Refuse what is no rest of a prime."""
    if not is_rest(number, prime):
        raise BadRest()


def rest_power(rest, exponent, prime):
    """A rest's power; the rest isn't 0 where the exponent is below nought."""
    if rest == 0:
        return 1 if exponent == 0 else 0
    # the powers of a rest but 0 come round after prime - 1 steps, below nought too
    steps = exponent % (prime - 1)
    return power_by(lambda first, second: first * second % prime, 1, rest, steps)


def undone(number, *, prime=LEAST):
    """What times a rest is 1."""
    return powered(number, -1, prime=prime)


def powered(number, exponent, *, prime=LEAST):
    """A rest's power; below nought that of what times the rest is 1."""
    refuse_prime(prime)
    refuse_rest(number, prime)
    if number == 0 and exponent < 0:
        raise NoInverse()
    return rest_power(number, exponent, prime)
