"""Leadings of a field into another one of the same prime."""

from rungfields.errors import NoLeading, NotWithin, Outside, Unfit
from rungfields.grid import raw_made, weighed_steps
from rungfields.raw import weighed
from rungfields.raw_field import refuse_numbers


class Leading:
    """A leading of a lesser field into a greater one, by the image of x."""

    def __init__(self, low, high, image):
        if low.prime() != high.prime():
            raise Unfit()
        if len(high) % len(low) != 0:
            raise NotWithin()
        refuse_numbers(high.raw, (image,))
        if high.raw.value(low.rule(), image) != high.raw.nought:
            raise NoLeading()
        self._low = low
        self._high = high
        self._image = image
        self._rows = high.raw.powers(image, len(low))
        self._steps = weighed_steps(self._rows, len(high), high.prime())

    def low(self):
        """The field that is led."""
        return self._low

    def high(self):
        """The field into which it is led."""
        return self._high

    def image(self):
        """The number to which x is led."""
        return self._image

    def to(self, number):
        """The number to which a number of the lesser field is led."""
        refuse_numbers(self._low.raw, (number,))
        return weighed(number, self._rows, self._high.raw.nought, self._high.prime())

    def back(self, number):
        """The number of the lesser field that is led to a number."""
        weights = self._weights(number)
        if weights is None:
            raise Outside()
        return tuple(weights)

    def holds(self, number):
        """Whether some number is led to a number."""
        return self._weights(number) is not None

    def then(self, other):
        """This leading, and behind it another one."""
        if self._high != other.low():
            raise Unfit()
        return Leading(self._low, other.high(), other.to(self._image))

    def _weights(self, number):
        """The rests of what is led to a number; None where nothing is."""
        refuse_numbers(self._high.raw, (number,))
        return raw_made(self._steps, number, len(self._rows), self._high.prime())

    def __len__(self):
        return len(self._low)

    def __eq__(self, other):
        return (isinstance(other, Leading) and self._low == other._low and self._high == other._high
                and self._image == other._image)

    def __repr__(self):
        return f"Leading({len(self._low)} to {len(self._high)})"
