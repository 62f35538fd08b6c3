"""Polynomials over a field: tuples of its numbers, the last one not nought."""

from rungfields.errors import BadNumber, NoInverse
from rungfields.raw_field import refuse_numbers
from rungfields.raw_over import raw_built, raw_over_common, raw_over_parted, raw_over_plus
from rungfields.raw_over import raw_over_times, raw_over_value


def refuse_row(raw, told):
    """Refuse what is no tuple or list of a field's numbers."""
    if not isinstance(told, (tuple, list)):
        raise BadNumber()
    refuse_numbers(raw, told)


def refuse_overs(raw, polys):
    """Refuse what is no polynomial over a field among some."""
    for told in polys:
        refuse_row(raw, told)
        if len(told) > 0 and told[-1] == raw.nought:
            raise BadNumber()


def over_plus(field, one, other):
    """The sum of two polynomials over a field."""
    refuse_overs(field.raw, (one, other))
    return raw_over_plus(field.raw, one, other)


def over_times(field, one, other):
    """The product of two polynomials over a field."""
    refuse_overs(field.raw, (one, other))
    return raw_over_times(field.raw, one, other)


def over_parted(field, one, other):
    """Quotient and rest of a polynomial over a field by another one."""
    refuse_overs(field.raw, (one, other))
    if len(other) == 0:
        raise NoInverse()
    return raw_over_parted(field.raw, one, other)


def over_common(field, one, other):
    """The greatest common polynomial of two over a field, level or nought."""
    refuse_overs(field.raw, (one, other))
    return raw_over_common(field.raw, tuple(one), tuple(other))


def over_value(field, one, number):
    """What a polynomial over a field is at a number."""
    refuse_overs(field.raw, (one,))
    refuse_numbers(field.raw, (number,))
    return raw_over_value(field.raw, one, number)


def built(field, roots):
    """The level polynomial over a field that has some roots, as often as they are told."""
    refuse_row(field.raw, roots)
    return raw_built(field.raw, roots)
