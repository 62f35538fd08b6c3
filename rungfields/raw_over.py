"""Arithmetic of polynomials over a field that does not look at what is handed in."""

from rungfields.powers import power_by


def over_trimmed(raw, numbers):
    """The polynomial of some numbers, noughts at the end left out."""
    count = len(numbers)
    while count > 0 and numbers[count - 1] == raw.nought:
        count -= 1
    return tuple(numbers[:count])


def raw_over_plus(raw, one, other):
    """The sum of two polynomials."""
    longer, shorter = (one, other) if len(one) >= len(other) else (other, one)
    numbers = list(longer)
    for place, number in enumerate(shorter):
        numbers[place] = raw.plus(numbers[place], number)
    return over_trimmed(raw, numbers)


def raw_over_times(raw, one, other):
    """The product of two polynomials."""
    sums = [raw.nought] * (len(one) + len(other))
    for low, number in enumerate(one):
        for high, by in enumerate(other):
            sums[low + high] = raw.plus(sums[low + high], raw.times(number, by))
    return over_trimmed(raw, sums)


def raw_over_parted(raw, one, other):
    """Quotient and rest of a polynomial by another one that isn't nought."""
    steps = max(0, len(one) - len(other) + 1)
    scale = raw.undone(other[-1])
    quotient = [raw.nought] * steps
    left = list(one)
    for place in reversed(range(steps)):
        share = raw.times(left[place + len(other) - 1], scale)
        quotient[place] = share
        for shift, number in enumerate(other):
            left[place + shift] = raw.minus(left[place + shift], raw.times(share, number))
    return over_trimmed(raw, quotient), over_trimmed(raw, left)


def raw_over_left(raw, one, rule):
    """What a polynomial leaves by a rule that isn't nought."""
    return raw_over_parted(raw, one, rule)[1]


def raw_over_level(raw, one):
    """A polynomial made level; nought stays."""
    if not one:
        return one
    scale = raw.undone(one[-1])
    return tuple([raw.times(number, scale) for number in one])


def raw_over_common(raw, one, other):
    """The greatest common polynomial of two."""
    held, low = one, other
    while low:
        held, low = low, raw_over_left(raw, held, low)
    return raw_over_level(raw, held)


def raw_over_power(raw, one, exponent, rule):
    """What a polynomial's power leaves by a rule of degree 1 at least; the exponent isn't below nought."""
    return power_by(
        lambda first, second: raw_over_left(raw, raw_over_times(raw, first, second), rule),
        (raw.unit,),
        raw_over_left(raw, one, rule),
        exponent,
    )


def raw_over_value(raw, one, number):
    """What a polynomial is at a number."""
    value = raw.nought
    for own in reversed(one):
        value = raw.plus(raw.times(value, number), own)
    return value


def raw_built(raw, roots):
    """The level polynomial with some roots."""
    told = (raw.unit,)
    for number in roots:
        told = raw_over_times(raw, told, (raw.minus(raw.nought, number), raw.unit))
    return told
