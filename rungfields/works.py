"""Works: numbers and formulas by names, with steps that can be taken back."""

from rungfields.deeds import done_by, done_by_all, frozen, guest_of, refuse_absent
from rungfields.errors import NothingLeft
from rungfields.leaning import leaned_on
from rungfields.rests import LEAST
from rungfields.shelf import Shelf
from rungfields.tongue import write
from rungfields.towers import Tower


def without_steps(works):
    """Works that have all that others have but their steps."""
    told = Works(prime=works.prime())
    told._shelf = works._shelf
    return told


class Works:
    """Guests and things of a tower by names."""

    def __init__(self, *, prime=LEAST):
        self._shelf = Shelf(Tower(prime=prime), {}, {}, {}, {})
        # each step with the shelf ahead of it, and each one taken back with the shelf behind it
        self._past = []
        self._later = []

    def bring(self, name, rule):
        """Let a guest come."""
        self.do(("bring", name, rule))

    def leave(self, name):
        """Let a guest go."""
        self.do(("leave", name))

    def put(self, name, field, rests):
        """Let a number of an own field or of a guest come."""
        self.do(("put", name, field, rests))

    def fix(self, name, field, rests):
        """Let a thing be a number from now on."""
        self.do(("fix", name, field, rests))

    def lay(self, name, text):
        """Let a formula come."""
        self.do(("lay", name, text))

    def change(self, name, text):
        """Let a thing be a formula from now on."""
        self.do(("change", name, text))

    def drop(self, name):
        """Let a thing go."""
        self.do(("drop", name))

    def do(self, deed):
        """Do a deed by its tuple."""
        shelf = done_by(self._shelf, deed)
        self._step(frozen(deed), shelf)

    def many(self, deeds):
        """Do several deeds as one step."""
        shelf = done_by_all(self._shelf, deeds)
        self._step(("many", tuple([frozen(deed) for deed in deeds])), shelf)

    def trial(self, deeds):
        """All worths as they would be behind several deeds."""
        return told_worths(done_by_all(self._shelf, deeds))

    def _step(self, deed, shelf):
        """Go one step on."""
        self._past.append((deed, self._shelf))
        self._later = []
        self._shelf = shelf

    def undo(self):
        """Take the last step back."""
        if not self._past:
            raise NothingLeft()
        deed, shelf = self._past.pop()
        self._later.append((deed, self._shelf))
        self._shelf = shelf
        return deed

    def redo(self):
        """Do again what was taken back last."""
        if not self._later:
            raise NothingLeft()
        deed, shelf = self._later.pop()
        self._past.append((deed, self._shelf))
        self._shelf = shelf
        return deed

    def twin(self):
        """Works that have all of it and then go their own way."""
        told = without_steps(self)
        told._past = list(self._past)
        told._later = list(self._later)
        return told

    def deeds(self):
        """The deeds of the steps that can be taken back, the eldest first."""
        return [deed for deed, _ in self._past]

    def depth(self):
        """How many steps can be taken back, and how many done again."""
        return len(self._past), len(self._later)

    def prime(self):
        """The prime."""
        return self._shelf.ground.prime()

    def tower(self):
        """The tower."""
        return self._shelf.ground

    def names(self):
        """The names of things, rising."""
        return sorted(list(self._shelf.known))

    def guests(self):
        """The names of guests, rising."""
        return sorted(list(self._shelf.hosted))

    def guest(self, name):
        """The guest by a name."""
        return guest_of(self._shelf, name)

    def formula(self, name):
        """The text of a thing's formula, None for a number."""
        refuse_absent(self._shelf.known, (name,))
        return write(self._shelf.trees[name]) if name in self._shelf.trees else None

    def worth(self, name):
        """A thing's worth."""
        refuse_absent(self._shelf.known, (name,))
        return self._shelf.known[name]

    def worths(self):
        """All things' names and worths, rising."""
        return told_worths(self._shelf)

    def leans(self, name):
        """The names, rising, on which a thing leans."""
        refuse_absent(self._shelf.known, (name,))
        return leaned_on(self._shelf.trees, name)

    def seen(self, name, guest):
        """A thing's worth as a guest has it."""
        worth = self.worth(name)
        return self.guest(guest).outward(worth)

    def __len__(self):
        return len(self._shelf.known)

    def __eq__(self, other):
        return isinstance(other, Works) and self._shelf == other._shelf

    def __repr__(self):
        return f"Works({len(self._shelf.hosted)} guests, {len(self._shelf.known)} things, by {self.prime()})"


def told_worths(shelf):
    """All names and worths of a shelf, rising."""
    return [(name, shelf.known[name]) for name in sorted(list(shelf.known))]
