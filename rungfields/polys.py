"""Polynomials over the rests of a prime, and their texts."""

from rungfields.errors import BadNumber, BadPoly, BadText, NoInverse
from rungfields.raw import raw_common, raw_minus, raw_parted, raw_plus, raw_power
from rungfields.raw import raw_put, raw_slope, raw_times, raw_value, trimmed
from rungfields.rests import LEAST, is_number, is_rest, refuse_prime, refuse_rest

MOST_RESTS = 25


def is_poly(told, prime):
    """Whether something is a polynomial over a prime's rests."""
    if not isinstance(told, tuple) or len(told) > MOST_RESTS:
        return False
    if not all([is_rest(rest, prime) for rest in told]):
        return False
    return told == () or told[-1] != 0


def refuse_polys(polys, prime):
    """Refuse a bad prime, then what is no polynomial among some."""
    refuse_prime(prime)
    for poly in polys:
        if not is_poly(poly, prime):
            raise BadPoly()


def refuse_nought(poly):
    """Refuse to part by nought."""
    if poly == ():
        raise NoInverse()


def poly_plus(one, other, *, prime=LEAST):
    """The sum of two polynomials."""
    refuse_polys((one, other), prime)
    return raw_plus(one, other, prime)


def poly_minus(one, other, *, prime=LEAST):
    """A polynomial less another one."""
    refuse_polys((one, other), prime)
    return raw_minus(one, other, prime)


def poly_times(one, other, *, prime=LEAST):
    """The product of two polynomials."""
    refuse_polys((one, other), prime)
    return raw_times(one, other, prime)


def poly_parted(one, other, *, prime=LEAST):
    """Quotient and rest of a polynomial by another one."""
    refuse_polys((one, other), prime)
    refuse_nought(other)
    return raw_parted(one, other, prime)


def poly_common(one, other, *, prime=LEAST):
    """The greatest common polynomial, and two that times both make it together."""
    refuse_polys((one, other), prime)
    return raw_common(one, other, prime)


def poly_value(one, number, *, prime=LEAST):
    """What a polynomial is at a rest."""
    refuse_polys((one,), prime)
    refuse_rest(number, prime)
    return raw_value(one, number, prime)


def poly_put(one, other, rule, *, prime=LEAST):
    """What a polynomial leaves by a rule where another one stands for x."""
    refuse_polys((one, other, rule), prime)
    refuse_nought(rule)
    return raw_put(one, other, rule, prime)


def poly_left(one, exponent, rule, *, prime=LEAST):
    """What a polynomial's power leaves by a rule."""
    refuse_polys((one, rule), prime)
    if not is_number(exponent) or exponent < 0:
        raise BadNumber()
    refuse_nought(rule)
    return raw_power(one, exponent, rule, prime)


def poly_slope(one, *, prime=LEAST):
    """Each rest times its place, one place down."""
    refuse_polys((one,), prime)
    return raw_slope(one, prime)


def poly_text(one, *, prime=LEAST):
    """The text of a polynomial, as `1 + 3x + x^4`."""
    refuse_polys((one,), prime)
    return written(one)


def read_poly(text, *, prime=LEAST):
    """The polynomial of a text that is written just as poly_text writes it."""
    refuse_prime(prime)
    rests = [0] * MOST_RESTS
    for word in text.split(" + "):
        rest, power = read_term(word)
        if not is_rest(rest, prime) or power is None or power >= MOST_RESTS:
            raise BadText(0)
        rests[power] = rest
    poly = trimmed(rests)
    # terms out of order, told twice or with needless figures show when they are written anew
    if written(poly) != text:
        raise BadText(0)
    return poly


def written(poly):
    """The text of a polynomial, whatever its rests."""
    if poly == ():
        return "0"
    return " + ".join([written_term(rest, power) for power, rest in enumerate(poly) if rest != 0])


def written_term(rest, power):
    """The text of a rest that stands before a power of x."""
    if power == 0:
        return str(rest)
    ahead = "" if rest == 1 else str(rest)
    behind = "" if power == 1 else f"^{power}"
    return f"{ahead}x{behind}"


def read_term(word):
    """Rest and power of a term, each None where no figures tell it."""
    ahead, mark, behind = word.partition("x")
    if mark == "":
        return read_figures(ahead), 0
    rest = 1 if ahead == "" else read_figures(ahead)
    power = 1 if behind == "" else read_figures(behind.removeprefix("^"))
    return rest, power


def read_figures(word):
    """The number that one or two figures are, else None."""
    if len(word) <= 2 and word.isascii() and word.isdigit():
        return int(word)
    return None
