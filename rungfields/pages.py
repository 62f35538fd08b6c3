"""Pages: works written as rows, and read again."""

from rungfields.errors import BadDeed, BadPage, RungError, RungMissing
from rungfields.polys import read_poly
from rungfields.words import is_figures
from rungfields.works import Works, without_steps

MOST_FIGURES = 2


def page(works):
    """The page of works."""
    things = sorted(works.names(), key=lambda name: thing_place(works, name))
    rows = [f"prime {works.prime()}"]
    rows += [guest_row(works, name) for name in works.guests()]
    rows += [thing_row(works, name) for name in things]
    return "".join([f"{row}\n" for row in rows])


def guest_row(works, name):
    """The row of a guest."""
    return f"guest {name} {works.guest(name).field()}"


def thing_row(works, name):
    """The row of a thing."""
    formula = works.formula(name)
    if formula is not None:
        return f"lay {name} {formula}"
    degree, rests = works.worth(name)
    return " ".join(["put", name, str(degree)] + [str(rest) for rest in rests])


def guest_place(name):
    """What tells where a guest's row stands behind the row of the prime."""
    return 0, 0, name


def thing_place(works, name):
    """What tells where a thing's row stands behind the row of the prime."""
    return 1, len(works.leans(name)), name


def read_page(text):
    """The works of a page, without steps."""
    rows = text.split("\n")
    works = begun(rows[0])
    ahead = ()
    for at, row in enumerate(rows[1:-1], start=1):
        try:
            place = taken_up(works, row)
        except (RungError, RungMissing):
            raise BadPage(at)
        if place is None or place < ahead:
            raise BadPage(at)
        ahead = place
    if rows[-1] != "":
        raise BadPage(len(rows) - 1)
    return without_steps(works)


def begun(row):
    """New works by the prime of the first row."""
    word, _, figures = row.partition(" ")
    if word != "prime" or not is_figures(figures, MOST_FIGURES):
        raise BadPage(0)
    try:
        works = Works(prime=int(figures))
    except RungError:
        raise BadPage(0)
    return works


def taken_up(works, row):
    """The place of a row whose deed is done; None of one that isn't written as works write it."""
    deed = row_deed(row, works.prime())
    works.do(deed)
    name = deed[1]
    if deed[0] == "bring":
        return guest_place(name) if guest_row(works, name) == row else None
    return thing_place(works, name) if thing_row(works, name) == row else None


def row_deed(row, prime):
    """The deed of a row."""
    words = row.split(" ")
    if len(words) < 3:
        raise BadDeed()
    name, behind = words[1], words[2:]
    if words[0] == "guest":
        return "bring", name, read_poly(" ".join(behind), prime=prime)
    if words[0] == "lay":
        return "lay", name, " ".join(behind)
    if words[0] != "put" or not all([is_figures(word, MOST_FIGURES) for word in behind]):
        raise BadDeed()
    return "put", name, int(behind[0]), [int(word) for word in behind[1:]]
