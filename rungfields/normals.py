"""Normal numbers, and the mirrored rows of bases."""

from rungfields.errors import BadTable
from rungfields.grid import raw_made, raw_stepped, weighed_steps
from rungfields.over import refuse_row
from rungfields.parting import raw_parts
from rungfields.raw import raw_parted, weighed
from rungfields.raw_field import refuse_numbers
from rungfields.raw_sums import raw_mirror, sum_rows


def is_normal(field, number):
    """Whether a number's turns are a basis of the field."""
    refuse_numbers(field.raw, (number,))
    return len(raw_stepped(field.raw.turns(number), len(field), field.prime())) == len(field)


def least_normal(field):
    """The first normal number by places."""
    return first_unbarred(bars(field.raw), (), field.prime())


def written_by(field, number, wanted):
    """The weights of a normal number's turns that make a wanted number."""
    refuse_numbers(field.raw, (number, wanted))
    steps = weighed_steps(field.raw.turns(number), len(field), field.prime())
    if len(steps) < len(field):
        raise BadTable(0)
    return raw_made(steps, wanted, len(field), field.prime())


def mirror(field, numbers):
    """The mirrored row of a row of numbers that is a basis."""
    refuse_row(field.raw, numbers)
    if len(numbers) != len(field):
        raise BadTable(0)
    mirrored = raw_mirror(field.raw, numbers)
    if mirrored is None:
        raise BadTable(0)
    return mirrored


def bars(raw):
    """Tables that each make nought of some numbers; normal are those of which none does."""
    # n turns less none make nought of all; parts of x^n less 1 tell which fewer turns do so too
    whole = (raw.base - 1,) + (0,) * (raw.width - 1) + (1,)
    told = []
    for part, _ in raw_parts(whole, raw.base):
        weights = raw_parted(whole, part, raw.base)[0]
        told.append(sum_rows(raw, [raw.plain(weight) for weight in weights]))
    return told


def first_unbarred(tables, chosen, prime):
    """The first number by places that ends in some chosen rests and that no table makes nought."""
    free = len(tables[0]) - len(chosen)
    if any([made_nought(table, chosen, free, prime) for table in tables]):
        return None
    if free == 0:
        return chosen
    for rest in range(prime):
        told = first_unbarred(tables, (rest,) + chosen, prime)
        if told is not None:
            return told
    return None


def made_nought(table, chosen, free, prime):
    """Whether a table makes nought of all numbers that end in some chosen rests."""
    if any([any(row) for row in table[:free]]):
        return False
    return not any(weighed(chosen, table[free:], (0,) * len(table), prime))
