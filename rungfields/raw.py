"""Arithmetic of polynomials that does not look at what is handed in, for any count of rests."""

from rungfields.powers import power_by
from rungfields.rests import rest_power


def trimmed(rests):
    """The polynomial of some rests, those of 0 at the end left out."""
    count = len(rests)
    while count > 0 and rests[count - 1] == 0:
        count -= 1
    return tuple(rests[:count])


def raw_scaled(one, rest, prime):
    """A polynomial times a rest."""
    return trimmed([own * rest % prime for own in one])


def raw_plus(one, other, prime):
    """The sum of two polynomials."""
    longer, shorter = (one, other) if len(one) >= len(other) else (other, one)
    rests = list(longer)
    for place, rest in enumerate(shorter):
        rests[place] = (rests[place] + rest) % prime
    return trimmed(rests)


def raw_minus(one, other, prime):
    """A polynomial less another one."""
    return raw_plus(one, raw_scaled(other, prime - 1, prime), prime)


def raw_times(one, other, prime):
    """The product of two polynomials."""
    if not one or not other:
        return ()
    sums = [0] * (len(one) + len(other) - 1)
    for low, rest in enumerate(one):
        for high, by in enumerate(other):
            sums[low + high] += rest * by
    return trimmed([number % prime for number in sums])


def raw_parted(one, other, prime):
    """Quotient and rest of a polynomial by another one that isn't nought."""
    steps = max(0, len(one) - len(other) + 1)
    scale = rest_power(other[-1], -1, prime)
    quotient = [0] * steps
    left = list(one)
    for place in reversed(range(steps)):
        share = left[place + len(other) - 1] * scale % prime
        quotient[place] = share
        for shift, rest in enumerate(other):
            left[place + shift] = (left[place + shift] - share * rest) % prime
    return trimmed(quotient), trimmed(left)


def raw_left(one, rule, prime):
    """What a polynomial leaves by a rule that isn't nought."""
    return raw_parted(one, rule, prime)[1]


def raw_common(one, other, prime):
    """The greatest common polynomial, and two that times both make it together."""
    held, held_first, held_second = one, (1,), ()
    low, low_first, low_second = other, (), (1,)
    while low:
        quotient, left = raw_parted(held, low, prime)
        first = raw_minus(held_first, raw_times(quotient, low_first, prime), prime)
        second = raw_minus(held_second, raw_times(quotient, low_second, prime), prime)
        held, held_first, held_second = low, low_first, low_second
        low, low_first, low_second = left, first, second
    if not held:
        return held, held_first, held_second
    scale = rest_power(held[-1], -1, prime)
    return (
        raw_scaled(held, scale, prime),
        raw_scaled(held_first, scale, prime),
        raw_scaled(held_second, scale, prime),
    )


def raw_value(one, number, prime):
    """What a polynomial is at a rest."""
    value = 0
    for rest in reversed(one):
        value = (value * number + rest) % prime
    return value


def raw_put(one, other, rule, prime):
    """What is left by a rule where another polynomial stands for x."""
    total = ()
    for rest in reversed(one):
        scaled = raw_times(total, other, prime)
        total = raw_left(raw_plus(scaled, trimmed([rest]), prime), rule, prime)
    return total


def raw_power(one, exponent, rule, prime):
    """What a polynomial's power leaves by a rule; the exponent isn't below nought."""
    # what 1 leaves by a rule of degree 0 is nought
    return power_by(
        lambda first, second: raw_left(raw_times(first, second, prime), rule, prime),
        raw_left((1,), rule, prime),
        raw_left(one, rule, prime),
        exponent,
    )


def raw_slope(one, prime):
    """Each rest times its place, one place down."""
    return trimmed([place * rest % prime for place, rest in enumerate(one)][1:])


def raw_level(one, prime):
    """A polynomial made level; nought stays."""
    if not one:
        return one
    return raw_scaled(one, rest_power(one[-1], -1, prime), prime)


def raw_greatest(one, other, prime):
    """The greatest common polynomial alone."""
    held, low = one, other
    while low:
        held, low = low, raw_left(held, low, prime)
    return raw_level(held, prime)


def raw_undone(one, rule, prime):
    """What times a polynomial leaves 1 by a rule with which it has no part in common."""
    held, held_by = rule, ()
    low, low_by = one, (1,)
    while len(low) > 1:
        quotient, left = raw_parted(held, low, prime)
        by = raw_minus(held_by, raw_times(quotient, low_by, prime), prime)
        held, held_by = low, low_by
        low, low_by = left, by
    return raw_scaled(low_by, rest_power(low[0], -1, prime), prime)


def padded(one, width):
    """The rests of a polynomial with as many noughts behind them as make the width."""
    return one + (0,) * (width - len(one))


def turn_rows(rule, prime):
    """For each power of x below a rule's degree what its turn leaves by the rule."""
    row = raw_left((1,), rule, prime)
    turn = raw_power((0, 1), prime, rule, prime)
    rows = []
    for _ in rule[1:]:
        rows.append(padded(row, len(rule) - 1))
        row = raw_left(raw_times(row, turn, prime), rule, prime)
    return rows


def weighed(weights, rows, start, prime):
    """Some rests and the sum of rows, each times its weight; a row without a weight counts nothing."""
    sums = list(start)
    for weight, row in zip(weights, rows):
        if weight != 0:
            for place, rest in enumerate(row):
                sums[place] += weight * rest
    return tuple([number % prime for number in sums])
