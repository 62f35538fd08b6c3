"""Deeds: each makes of a shelf the one behind it, or is refused."""

from rungfields.errors import BadDeed, BadName, Full, NoGuest, NoName, Ring, RungError
from rungfields.errors import RungMissing, Stopped, Taken, Used
from rungfields.guests import Guest
from rungfields.leaning import leaned_on, names_in, worked_out, worths_behind
from rungfields.shelf import Shelf, with_one, without
from rungfields.tongue import read
from rungfields.words import is_name

MOST_GUESTS = 6
MOST_THINGS = 10


def refuse_new(table, name):
    """Refuse what is no name, and a name that stands for something."""
    if not is_name(name):
        raise BadName()
    if name in table:
        raise Taken()


def refuse_full(table, most):
    """Refuse one more where there are as many as there may be."""
    if len(table) >= most:
        raise Full()


def refuse_absent(table, names):
    """Refuse the first name that is no thing's."""
    for name in names:
        if name not in table:
            raise NoName(name)


def guest_of(shelf, name):
    """The guest by a name."""
    if name not in shelf.hosted:
        raise NoGuest(name)
    return shelf.hosted[name]


def with_hosted(shelf, hosted):
    """A shelf with other guests."""
    return Shelf(shelf.ground, hosted, shelf.homes, shelf.trees, shelf.known)


def with_number(shelf, name, pair):
    """A shelf with a number by a name, which may have stood for something else."""
    homes = with_one(shelf.homes, name, pair)
    trees = without(shelf.trees, name)
    known = worths_behind(shelf.ground, trees, with_one(shelf.known, name, pair), name)
    return Shelf(shelf.ground, shelf.hosted, homes, trees, known)


def with_formula(shelf, name, tree, worth):
    """A shelf with a formula by a name, which may have stood for something else."""
    homes = without(shelf.homes, name)
    trees = with_one(shelf.trees, name, tree)
    known = worths_behind(shelf.ground, trees, with_one(shelf.known, name, worth), name)
    return Shelf(shelf.ground, shelf.hosted, homes, trees, known)


def home_of(shelf, field, rests):
    """The home of a number of an own field, told by its degree, or of a guest, told by its name."""
    number = tuple(rests)
    if not isinstance(field, str):
        return shelf.ground.home((field, number))
    return guest_of(shelf, field).inward(number)


def bring(shelf, name, rule):
    """A guest comes."""
    refuse_new(shelf.hosted, name)
    guest = Guest(shelf.ground, rule)
    refuse_full(shelf.hosted, MOST_GUESTS)
    return with_hosted(shelf, with_one(shelf.hosted, name, guest))


def leave(shelf, name):
    """A guest goes."""
    guest_of(shelf, name)
    return with_hosted(shelf, without(shelf.hosted, name))


def put(shelf, name, field, rests):
    """A number comes."""
    refuse_new(shelf.known, name)
    pair = home_of(shelf, field, rests)
    refuse_full(shelf.known, MOST_THINGS)
    return with_number(shelf, name, pair)


def fix(shelf, name, field, rests):
    """A thing is a number from now on."""
    refuse_absent(shelf.known, (name,))
    return with_number(shelf, name, home_of(shelf, field, rests))


def lay(shelf, name, text):
    """A formula comes."""
    refuse_new(shelf.known, name)
    tree = read(text)
    refuse_absent(shelf.known, names_in(tree))
    worth = worked_out(shelf.ground, tree, shelf.known)
    refuse_full(shelf.known, MOST_THINGS)
    return with_formula(shelf, name, tree, worth)


def change(shelf, name, text):
    """A thing is a formula from now on."""
    refuse_absent(shelf.known, (name,))
    tree = read(text)
    refuse_absent(shelf.known, names_in(tree))
    if name in leaned_on(with_one(shelf.trees, name, tree), name):
        raise Ring()
    return with_formula(shelf, name, tree, worked_out(shelf.ground, tree, shelf.known))


def drop(shelf, name):
    """A thing goes."""
    refuse_absent(shelf.known, (name,))
    for other in sorted(list(shelf.trees)):
        if name in names_in(shelf.trees[other]):
            raise Used(other)
    homes, trees, known = without(shelf.homes, name), without(shelf.trees, name), without(shelf.known, name)
    return Shelf(shelf.ground, shelf.hosted, homes, trees, known)


DEEDS = {"bring": bring, "leave": leave, "put": put, "fix": fix, "lay": lay, "change": change, "drop": drop}
SIZES = {"bring": 3, "leave": 2, "put": 4, "fix": 4, "lay": 3, "change": 3, "drop": 2}


def done_by(shelf, deed):
    """The shelf behind a deed."""
    if not isinstance(deed, tuple) or len(deed) == 0 or deed[0] not in SIZES or len(deed) != SIZES[deed[0]]:
        raise BadDeed()
    action = DEEDS[deed[0]]
    things = deed[1:]
    return action(shelf, *things)


def done_by_all(shelf, deeds):
    """The shelf behind several deeds."""
    for at, deed in enumerate(deeds):
        try:
            shelf = done_by(shelf, deed)
        except (RungError, RungMissing) as error:
            raise Stopped(at, error.word)
    return shelf


def frozen(deed):
    """A deed as it is told, with tuples for lists."""
    return tuple([tuple(thing) if isinstance(thing, list) else thing for thing in deed])
