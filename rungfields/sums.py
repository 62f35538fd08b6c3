"""Equations of turned sums."""

from rungfields.errors import BadNumber
from rungfields.grid import raw_kernel, raw_made, raw_probe, weighed_steps
from rungfields.over import refuse_row
from rungfields.raw import weighed
from rungfields.raw_field import refuse_numbers
from rungfields.raw_sums import raw_mirror, raw_turned_sum, sum_rows, x_powers


def turned_sum(field, weights, number):
    """The first weight times a number, the second times its turn, and so on."""
    refuse_row(field.raw, weights)
    refuse_numbers(field.raw, (number,))
    return raw_turned_sum(field.raw, weights, number)


def answers(field, weights, wanted):
    """All numbers at which a turned sum is a wanted one, or a probe that bars it."""
    refuse_row(field.raw, weights)
    refuse_numbers(field.raw, (wanted,))
    rows = sum_rows(field.raw, weights)
    one = one_answer(rows, wanted, field.prime())
    if one is None:
        return "barred", trace_probe(field.raw, rows, wanted)
    return "room", one, nought_answers(rows, field.prime())


def differs(field, number):
    """A number whose turn less it is a wanted one; else the wanted one's trace."""
    raw = field.raw
    refuse_numbers(raw, (number,))
    rest = raw.turn_sum(number, 1)[0]
    if rest != 0:
        return "trace", rest
    rows = sum_rows(raw, (raw.plain(raw.base - 1), raw.unit))
    return "less", one_answer(rows, number, raw.base)


def shares(field, number):
    """A number whose turn over it is a wanted one; else the wanted one's norm."""
    raw = field.raw
    refuse_numbers(raw, (number,))
    if number == raw.nought:
        raise BadNumber()
    rest = raw.turn_product(number, 1)[0]
    if rest != 1:
        return "norm", rest
    # such a number's turn less the wanted one times it is nought
    rows = sum_rows(raw, (raw.minus(raw.nought, number), raw.unit))
    return "over", nought_answers(rows, raw.base)[0]


def one_answer(rows, wanted, prime):
    """A number at which a turned sum, told at the powers of x, is a wanted one; None where none is."""
    weights = raw_made(weighed_steps(rows, len(rows), prime), wanted, len(rows), prime)
    return None if weights is None else tuple(weights)


def nought_answers(rows, prime):
    """The told basis of the numbers at which a turned sum, told at the powers of x, is nought."""
    columns = [tuple([row[place] for row in rows]) for place in range(len(rows))]
    return raw_kernel(columns, len(rows), prime)


def trace_probe(raw, rows, wanted):
    """A number whose product with each turned sum has the trace 0, with a wanted one the trace 1."""
    probe = raw_probe(rows, wanted, raw.base)
    # a sum of the mirrored row has as traces with the powers of x the rests that weigh it
    return weighed(probe, raw_mirror(raw, x_powers(raw)), raw.nought, raw.base)
