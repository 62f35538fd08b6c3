"""The whole parts of polynomials over rests, and their roots among the rests."""

from rungfields.errors import BadPoly
from rungfields.grid import raw_kernel
from rungfields.polys import refuse_polys
from rungfields.raw import raw_greatest, raw_left, raw_level, raw_minus, raw_parted, raw_plus
from rungfields.raw import raw_power, raw_slope, raw_value, trimmed, turn_rows
from rungfields.rests import LEAST


def parts(poly, *, prime=LEAST):
    """The last rest of a polynomial, and its level whole parts with their counts."""
    refuse_nought_poly(poly, prime)
    return poly[-1], raw_parts(raw_level(poly, prime), prime)


def rest_roots(poly, *, prime=LEAST):
    """The rests at which a polynomial is 0, with their counts."""
    refuse_nought_poly(poly, prime)
    told = [rest for rest in range(prime) if raw_value(poly, rest, prime) == 0]
    return [(rest, taken_out(poly, (-rest % prime, 1), prime)[0]) for rest in told]


def refuse_nought_poly(poly, prime):
    """Refuse what is no polynomial, and nought."""
    refuse_polys((poly,), prime)
    if poly == ():
        raise BadPoly()


def raw_parts(poly, prime):
    """The whole parts of a level polynomial with their counts, in their order."""
    told = sorted(whole_parts(poly, prime), key=lambda part: (len(part), part))
    return [(part, taken_out(poly, part, prime)[0]) for part in told]


def first_part(poly, prime):
    """The first whole part of a level polynomial of degree 1 at least."""
    return raw_parts(poly, prime)[0][0]


def taken_out(poly, part, prime):
    """How often a part stands in a polynomial, and what the polynomial is without it."""
    count = 0
    quotient, left = raw_parted(poly, part, prime)
    while not left:
        count += 1
        poly = quotient
        quotient, left = raw_parted(poly, part, prime)
    return count, poly


def whole_parts(poly, prime):
    """The whole parts of a level polynomial, each once, in any order."""
    if len(poly) == 1:
        return []
    slope = raw_slope(poly, prime)
    if not slope:
        # only powers of x to the prime stand in it, and rests are their own powers to the prime
        return whole_parts(poly[::prime], prime)
    # parts whose count the prime divides stand in the common one as often as in the polynomial
    common = raw_greatest(poly, slope, prime)
    told = single_parts(raw_parted(poly, common, prime)[0], prime)
    left = poly
    for part in told:
        left = taken_out(left, part, prime)[1]
    return told + whole_parts(left, prime)


def single_parts(poly, prime):
    """The whole parts of a level polynomial in which each stands once."""
    masks = steady_polys(poly, prime)
    told = [poly]
    for mask in masks:
        if len(told) < len(masks):
            told = [smaller for part in told for smaller in split_by(part, mask, prime)]
    return told


def steady_polys(poly, prime):
    """A basis of what a turn leaves as it is by a polynomial: what leaves a rest by each whole part."""
    rows = turn_rows(poly, prime)
    width = len(rows)
    table = []
    for place in range(width):
        column = [row[place] for row in rows]
        column[place] = (column[place] - 1) % prime
        table.append(tuple(column))
    return [trimmed(told) for told in raw_kernel(table, width, prime)]


def split_by(part, mask, prime):
    """Parts of a polynomial by each of which a mask leaves one rest."""
    own = raw_left(mask, part, prime)
    if len(own) <= 1:
        return [part]
    for shift in range(prime):
        common = raw_greatest(part, half_mask(own, shift, part, prime), prime)
        if 1 < len(common) < len(part):
            other = raw_parted(part, common, prime)[0]
            return split_by(common, own, prime) + split_by(other, own, prime)
    return [part]


def half_mask(mask, shift, part, prime):
    """What leaves 0 by just those whole parts by which a mask leaves rests of one half."""
    # of two unlike rests some shift makes just one a square that isn't 0, whose power is 1
    moved = raw_plus(mask, trimmed([shift]), prime)
    return raw_minus(raw_power(moved, prime // 2, part, prime), (1,), prime)
