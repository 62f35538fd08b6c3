"""Turned sums and traces of products, for use within the package: nothing handed in is looked at."""

from rungfields.grid import unit_row, weighed_steps


def x_powers(raw):
    """The powers of x below a field's degree."""
    return [unit_row(place, raw.width) for place in range(raw.width)]


def raw_turned_sum(raw, weights, number):
    """The first weight times a number, the second times its turn, and so on."""
    total = raw.nought
    for weight in weights:
        total = raw.plus(total, raw.times(weight, number))
        number = raw.turned(number, 1)
    return total


def sum_rows(raw, weights):
    """The turned sum at each power of x below the field's degree."""
    return [raw_turned_sum(raw, weights, power) for power in x_powers(raw)]


def trace_rows(raw, numbers):
    """For each of some numbers the traces of its products with the powers of x."""
    powers = x_powers(raw)
    traces = [raw.turn_sum(power, 1)[0] for power in powers]
    rows = []
    for number in numbers:
        products = [raw.times(number, power) for power in powers]
        rows.append(tuple([trace_of(traces, product, raw.base) for product in products]))
    return rows


def trace_of(traces, number, prime):
    """A number's trace by those of the powers of x."""
    return sum([rest * trace for rest, trace in zip(number, traces)]) % prime


def raw_mirror(raw, numbers):
    """The mirrored row of as many numbers as the field's degree; None where they are no basis."""
    steps = weighed_steps(trace_rows(raw, numbers), raw.width, raw.base)
    if len(steps) < raw.width:
        return None
    return [tuple([step[raw.width + at] for step in steps]) for at in range(raw.width)]
