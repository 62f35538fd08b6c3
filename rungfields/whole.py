"""Which polynomials are whole, and papers that say so."""

from rungfields.errors import BadDegree, BadPoly
from rungfields.parting import first_part
from rungfields.polys import is_poly, refuse_polys
from rungfields.raw import raw_common, raw_greatest, raw_left, raw_level, raw_minus, raw_parted, raw_plus
from rungfields.raw import raw_times, trimmed, turn_rows, weighed
from rungfields.rests import LEAST, PRIMES, is_number, refuse_prime

X = (0, 1)
MOST_DEGREE = 12


def is_whole(poly, *, prime=LEAST):
    """Whether a polynomial is whole."""
    refuse_polys((poly,), prime)
    return raw_whole(poly, prime)


def paper(poly, *, prime=LEAST):
    """A paper that says whether a polynomial is whole."""
    refuse_low(poly, prime)
    if not raw_whole(poly, prime):
        part = first_part(raw_level(poly, prime), prime)
        return "parts", part, raw_parted(poly, part, prime)[0]
    turns = turns_of_x(poly, len(poly) - 1, prime)
    shows = [raw_common(less, poly, prime)[1:] for less in shown_turns(turns, prime)]
    return "whole", turns, shows


def paper_holds(poly, told, *, prime=LEAST):
    """Whether a paper says of a polynomial what is so."""
    refuse_low(poly, prime)
    if not isinstance(told, tuple) or len(told) != 3:
        return False
    word, one, other = told
    if word == "parts":
        return parts_hold(poly, one, other, prime)
    if word == "whole":
        return turns_hold(poly, one, prime) and shows_hold(poly, one, other, prime)
    return False


def least_whole(degree, *, prime=LEAST):
    """The least whole polynomial of a degree."""
    refuse_prime(prime)
    refuse_degree(degree)
    if degree == 1:
        return X
    # x stands in all of them whose first rest is 0
    rests = [1] + [0] * (degree - 1)
    while not raw_whole(tuple(rests) + (1,), prime):
        count_on(rests, prime)
    return tuple(rests) + (1,)


def refuse_degree(told):
    """Refuse what is no degree from 1 to 12."""
    if not is_number(told) or not 1 <= told <= MOST_DEGREE:
        raise BadDegree()


def count_on(rests, prime):
    """Make of some rests those that come next as tuples are compared."""
    place = len(rests) - 1
    while rests[place] == prime - 1:
        rests[place] = 0
        place -= 1
    rests[place] += 1


def refuse_low(poly, prime):
    """Refuse what is no polynomial of degree 1 at least."""
    refuse_polys((poly,), prime)
    if len(poly) < 2:
        raise BadPoly()


def raw_whole(poly, prime):
    """Whether a polynomial is whole."""
    if len(poly) < 2:
        return False
    # of several parts one has no more than half the degree, and it parts that turn of x, less x
    for turn in turns_of_x(poly, (len(poly) - 1) // 2, prime):
        if len(raw_greatest(raw_minus(turn, X, prime), poly, prime)) > 1:
            return False
    return True


def turns_of_x(poly, count, prime):
    """What the first turns of x leave by a polynomial, so many of them."""
    rows = turn_rows(poly, prime)
    nought = (0,) * len(rows)
    turn = raw_left(X, poly, prime)
    turns = []
    for _ in range(count):
        turn = trimmed(weighed(turn, rows, nought, prime))
        turns.append(turn)
    return turns


def shown_turns(turns, prime):
    """For each prime of their count, rising, the turn at the count's part by it, less x."""
    count = len(turns)
    return [raw_minus(turns[count // by - 1], X, prime) for by in PRIMES if count % by == 0]


def parts_hold(poly, one, other, prime):
    """Whether two are polynomials of degree 1 at least with a polynomial as their product."""
    for part in (one, other):
        if not is_poly(part, prime) or len(part) < 2:
            return False
    return raw_times(one, other, prime) == poly


def turns_hold(poly, turns, prime):
    """Whether some are the turns of x by a polynomial, the last one what x leaves."""
    if not isinstance(turns, (list, tuple)) or not all([is_poly(turn, prime) for turn in turns]):
        return False
    wanted = turns_of_x(poly, len(poly) - 1, prime)
    return list(turns) == wanted and wanted[-1] == raw_left(X, poly, prime)


def shows_hold(poly, turns, shows, prime):
    """Whether some show that turns less x have nothing in common with a polynomial."""
    shown = shown_turns(turns, prime)
    if not isinstance(shows, (list, tuple)) or len(shows) != len(shown):
        return False
    for less, show in zip(shown, shows):
        if not show_holds(poly, less, show, prime):
            return False
    return True


def show_holds(poly, less, show, prime):
    """Whether a pair makes 1 of a turn less x and a polynomial."""
    if not isinstance(show, tuple) or len(show) != 2:
        return False
    first, second = show
    if not is_poly(first, prime) or not is_poly(second, prime):
        return False
    return raw_plus(raw_times(first, less, prime), raw_times(second, poly, prime), prime) == (1,)
