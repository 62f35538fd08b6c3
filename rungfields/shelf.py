"""What works hold at one time."""


def with_one(table, name, thing):
    """A table with one thing more, or another one, by a name."""
    told = dict(table)
    told[name] = thing
    return told


def without(table, name):
    """A table without what a name stands for in it, if it stands for something."""
    return {other: table[other] for other in table if other != name}


class Shelf:
    """Guests, numbers at home, trees and worths by names; a shelf is never changed."""

    def __init__(self, ground, hosted, homes, trees, known):
        # the tower
        self.ground = ground
        self.hosted = hosted
        self.homes = homes
        self.trees = trees
        # the worths of all things
        self.known = known

    def __eq__(self, other):
        return (isinstance(other, Shelf) and self.ground == other.ground and self.hosted == other.hosted
                and self.homes == other.homes and self.trees == other.trees)
