"""Guests: fields by rules of an asker's own, led into the tower."""

from rungfields.errors import Outside, Unfit
from rungfields.fields import Field
from rungfields.leadings import Leading
from rungfields.polys import written
from rungfields.roots import raw_roots


def meeting(one, other):
    """The leading of a guest's field into another one's, by own fields."""
    if one.tower() != other.tower():
        raise Unfit()
    between = one.tower().lead(len(one), len(other))
    image = other.lead().back(between.to(one.lead().image()))
    return Leading(one.field(), other.field(), image)


class Guest:
    """A field by a rule, led into the own field of its degree."""

    def __init__(self, tower, rule):
        self._tower = tower
        self._field = Field(rule, prime=tower.prime())
        own = tower.own(len(self._field))
        self._lead = Leading(self._field, own, min(raw_roots(own.raw, rule)))

    def tower(self):
        """The tower."""
        return self._tower

    def field(self):
        """The guest's own field."""
        return self._field

    def lead(self):
        """The leading into the own field of the same degree."""
        return self._lead

    def inward(self, number):
        """The home of a guest's number."""
        return self._tower.home((len(self._field), self._lead.to(number)))

    def outward(self, number):
        """A pair of the tower as the guest has it."""
        degree = self._tower.home(number)[0]
        if len(self._field) % degree != 0:
            raise Outside()
        return self._lead.back(self._tower.raised(number, len(self._field))[1])

    def __len__(self):
        return len(self._field)

    def __eq__(self, other):
        return isinstance(other, Guest) and self._field == other._field

    def __repr__(self):
        return f"Guest({written(self._field.rule())} by {self._tower.prime()})"
