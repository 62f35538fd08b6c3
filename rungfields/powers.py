"""Powers by any multiplication."""


def power_by(times, unit, one, exponent):
    """A power made by a multiplication from its unit; the exponent isn't below nought."""
    power = unit
    square = one
    steps = exponent
    while steps > 0:
        if steps % 2 == 1:
            power = times(power, square)
        steps //= 2
        if steps > 0:
            square = times(square, square)
    return power
