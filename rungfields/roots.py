"""The roots in a field of polynomials over rests."""

from rungfields.errors import BadPoly, NotWhole, NotWithin
from rungfields.parting import first_part, raw_parts, refuse_nought_poly
from rungfields.polys import refuse_polys
from rungfields.raw import raw_level
from rungfields.raw_over import over_trimmed, raw_over_common, raw_over_left, raw_over_parted
from rungfields.raw_over import raw_over_plus, raw_over_power
from rungfields.whole import raw_whole, turns_of_x


def root(field, poly):
    """The least root in a field of a level whole polynomial over rests."""
    refuse_polys((poly,), field.prime())
    if len(poly) < 2 or poly[-1] != 1:
        raise BadPoly()
    if not raw_whole(poly, field.prime()):
        raise NotWhole(first_part(poly, field.prime()))
    if len(field) % (len(poly) - 1) != 0:
        raise NotWithin()
    return min(raw_roots(field.raw, poly))


def roots(field, poly):
    """All roots in a field of a polynomial over rests, rising, with their counts."""
    refuse_nought_poly(poly, field.prime())
    told = []
    for part, count in raw_parts(raw_level(poly, field.prime()), field.prime()):
        if len(field) % (len(part) - 1) == 0:
            told += [(number, count) for number in raw_roots(field.raw, part)]
    return sorted(told)


def raw_roots(raw, poly):
    """All roots of a level whole polynomial whose degree divides the field's, in any order."""
    return raw.orbit(raw_root(raw, poly))


def raw_root(raw, poly):
    """One root of a level whole polynomial whose degree divides the field's."""
    part = tuple([raw.plain(rest) for rest in poly])
    turns = turns_of_x(poly, len(poly) - 1, raw.base)
    for place in range(raw.width):
        if len(part) > 2:
            # at unlike roots the masks of some place differ
            part = narrowed(raw, part, trace_mask(raw, turns, raw.x_power(place)))
    return raw.minus(raw.nought, part[0])


def trace_mask(raw, turns, number):
    """The polynomial that at each root is the trace of the root times a number, which is a rest."""
    count = len(turns)
    weight = raw.turn_sum(number, count)
    sums = [raw.nought] * count
    for at in range(count):
        weight = raw.turned(weight, 1)
        for place, rest in enumerate(turns[at]):
            sums[place] = raw.plus(sums[place], raw.times(raw.plain(rest), weight))
    return over_trimmed(raw, sums)


def narrowed(raw, part, mask):
    """A part of a polynomial, all of whose roots are in the field, by which a mask leaves one rest."""
    own = raw_over_left(raw, mask, part)
    while len(own) > 1:
        part = smaller_part(raw, part, own)
        own = raw_over_left(raw, own, part)
    return part


def smaller_part(raw, part, mask):
    """The lesser one of two parts of a polynomial at whose roots a mask is unlike rests."""
    for shift in range(raw.base):
        common = raw_over_common(raw, part, half_over(raw, mask, shift, part))
        if 1 < len(common) < len(part):
            other = raw_over_parted(raw, part, common)[0]
            return common if len(common) < len(other) else other
    return part


def half_over(raw, mask, shift, part):
    """What is 0 at just those roots of a part at which a mask is a rest of one half."""
    # of two unlike rests some shift makes just one a square that isn't 0, whose power is 1
    moved = raw_over_plus(raw, mask, over_trimmed(raw, (raw.plain(shift),)))
    raised = raw_over_power(raw, moved, raw.base // 2, part)
    return raw_over_plus(raw, raised, (raw.plain(raw.base - 1),))
