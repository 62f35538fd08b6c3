"""What formulas come to, and on which names they lean."""

from rungfields.errors import Held, NoInverse, TooTall

BOTH = ("plus", "minus", "times", "over")


def names_in(tree):
    """The names in a tree, from the left, as often as they stand."""
    kind = tree[0]
    if kind == "name":
        return [tree[1]]
    if kind == "number":
        return []
    if kind in BOTH:
        return names_in(tree[1]) + names_in(tree[2])
    return names_in(tree[1])


def leaned_on(trees, name):
    """The names, rising, on which a thing leans; those without a tree are numbers."""
    found = {}
    waiting = [name]
    while waiting:
        lean = waiting.pop()
        inside = names_in(trees[lean]) if lean in trees else []
        for inner in inside:
            if inner not in found:
                found[inner] = True
                waiting.append(inner)
    return sorted(list(found))


def worked_out(tower, tree, worths):
    """What a tree comes to by the worths of names."""
    kind = tree[0]
    if kind == "name":
        return worths[tree[1]]
    if kind == "number":
        return 1, (tree[1] % tower.prime(),)
    first = worked_out(tower, tree[1], worths)
    if kind == "power":
        return tower.power(first, tree[2])
    if kind == "turned":
        return tower.turned(first)
    return put_together(tower, kind, first, worked_out(tower, tree[2], worths))


def put_together(tower, kind, first, second):
    """What two worths come to by a kind of trees."""
    if kind == "plus":
        return tower.plus(first, second)
    if kind == "minus":
        return tower.minus(first, second)
    if kind == "times":
        return tower.times(first, second)
    return tower.over(first, second)


def by_leaning(trees):
    """The names of trees, each behind all on which it leans."""
    return sorted(list(trees), key=lambda name: (len(leaned_on(trees, name)), name))


def worths_behind(tower, trees, worths, name):
    """All worths where one thing's worth is another than before; Held where some can't be told."""
    told = dict(worths)
    lost = {}
    for other in by_leaning(trees):
        if name in leaned_on(trees, other):
            inside = names_in(trees[other])
            if any([inner in lost for inner in inside]) or not came_to(tower, trees[other], told, other):
                lost[other] = True
    if lost:
        raise Held(min(list(lost)))
    return told


def came_to(tower, tree, worths, name):
    """Whether a tree comes to something, which is then kept as a name's worth."""
    try:
        worths[name] = worked_out(tower, tree, worths)
    except (NoInverse, TooTall):
        return False
    return True
