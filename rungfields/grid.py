"""Tables of rests: their told form, their kernel, and rows made of others."""

from rungfields.errors import BadTable, BadWidth
from rungfields.rests import LEAST, is_number, is_rest, refuse_prime, rest_power

MOST_ROWS = 24
MOST_WIDE = 24


def is_row(told, width, prime):
    """Whether something is a row of a table of a width."""
    return isinstance(told, tuple) and len(told) == width and all([is_rest(rest, prime) for rest in told])


def refuse_table(rows, width, prime):
    """Refuse a bad prime, then a bad width, then the first row that is none."""
    refuse_prime(prime)
    if not is_number(width) or not 1 <= width <= MOST_WIDE:
        raise BadWidth()
    for at, row in enumerate(rows):
        if at >= MOST_ROWS or not is_row(row, width, prime):
            raise BadTable(at)


def stepped(rows, width, *, prime=LEAST):
    """The told form of a table."""
    refuse_table(rows, width, prime)
    return raw_stepped(rows, width, prime)


def kernel(rows, width, *, prime=LEAST):
    """The basis, in told form, of all tuples that each row weighs to 0."""
    refuse_table(rows, width, prime)
    return raw_kernel(rows, width, prime)


def solved(rows, wanted, width, *, prime=LEAST):
    """The weights of the rows that make a wanted one, or a probe that bars it."""
    refuse_table(rows, width, prime)
    if not is_row(wanted, width, prime):
        raise BadTable(0)
    weights = raw_made(weighed_steps(rows, width, prime), wanted, len(rows), prime)
    if weights is not None:
        return "made", weights
    return "barred", raw_probe(rows, wanted, prime)


def raw_stepped(rows, width, prime):
    """The told form as far as the width; what rows bear beyond it goes with them."""
    left = list(rows)
    told = []
    for place in range(width):
        heads = [row for row in left if row[place] != 0]
        if heads:
            scale = rest_power(heads[0][place], -1, prime)
            head = tuple([rest * scale % prime for rest in heads[0]])
            left = [cleared(row, head, place, prime) for row in left]
            told = [cleared(row, head, place, prime) for row in told] + [head]
    return told


def cleared(row, head, place, prime):
    """A row less so much of a head, which is 1 at a place, that it is 0 there."""
    share = row[place]
    if share == 0:
        return row
    return tuple([(rest - share * by) % prime for rest, by in zip(row, head)])


def head_place(row):
    """The first place at which a row isn't 0."""
    place = 0
    while row[place] == 0:
        place += 1
    return place


def unit_row(place, width):
    """The row that is 1 at a place and else 0."""
    return (0,) * place + (1,) + (0,) * (width - place - 1)


def raw_kernel(rows, width, prime):
    """The told basis of what each row weighs to 0."""
    heads = {head_place(row): row for row in raw_stepped(rows, width, prime)}
    basis = []
    for free in range(width):
        if free not in heads:
            told = list(unit_row(free, width))
            for place, row in heads.items():
                told[place] = -row[free] % prime
            basis.append(tuple(told))
    return raw_stepped(basis, width, prime)


def weighed_steps(rows, width, prime):
    """The told form of some rows, behind each the weights of the rows that make it."""
    count = len(rows)
    wider = [tuple(row) + unit_row(at, count) for at, row in enumerate(rows)]
    return raw_stepped(wider, width, prime)


def raw_made(steps, wanted, count, prime):
    """The weights by which rows, stepped with their weights, make a wanted one; None where none do."""
    left = wanted + (0,) * count
    for step in steps:
        left = cleared(left, step, head_place(step), prime)
    if any(left[:len(wanted)]):
        return None
    return [-rest % prime for rest in left[len(wanted):]]


def raw_probe(rows, wanted, prime):
    """A tuple that each row weighs to 0 and that weighs to 1 a wanted row that they don't make."""
    probe = ()
    for told in raw_kernel(rows, len(wanted), prime):
        worth = sum([rest * by for rest, by in zip(told, wanted)]) % prime
        if worth != 0:
            scale = rest_power(worth, -1, prime)
            probe = tuple([rest * scale % prime for rest in told])
    return probe
