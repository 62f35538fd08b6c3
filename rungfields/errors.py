"""The refusals of the program, one class for each kind."""


class RungError(ValueError):
    """The base of all refusals but those of a missing thing."""

    def __init__(self, *told):
        # ValueError keeps what is told when the object is made, so nothing is handed up
        self.word = self.__class__.__name__


class BadPrime(RungError):
    """A prime that is none from 2 to 97."""


class BadRest(RungError):
    """A number that is no rest of the prime."""


class BadPoly(RungError):
    """What is no polynomial over the prime's rests."""


class BadWidth(RungError):
    """A table's width beyond its bounds."""


class BadTable(RungError):
    """A row of a table that is none, at a place counted from 0."""

    def __init__(self, at):
        RungError.__init__(self)
        self.at = at


class BadRule(RungError):
    """A polynomial that is no rule by its form."""


class NotWhole(RungError):
    """A polynomial that has parts, with the first whole one."""

    def __init__(self, part):
        RungError.__init__(self)
        self.part = part


class BadDegree(RungError):
    """A degree beyond its bounds."""


class BadNumber(RungError):
    """What is no number of the kind that is asked for."""


class NoInverse(RungError):
    """A nought by which nothing can be divided."""


class NotWithin(RungError):
    """A field that does not lie in another one."""


class NoLeading(RungError):
    """An image that is no root."""


class Unfit(RungError):
    """Two things that do not go together."""


class Outside(RungError):
    """A number to which nothing is led."""


class TooTall(RungError):
    """A degree that no own field has."""

    def __init__(self, tall):
        RungError.__init__(self)
        self.tall = tall


class BadText(RungError):
    """A text that can't be read, with the place from which on."""

    def __init__(self, at):
        RungError.__init__(self)
        self.at = at


class BadName(RungError):
    """What is no name."""


class Taken(RungError):
    """A name that already stands for something."""


class Full(RungError):
    """No room for one more."""


class Ring(RungError):
    """A formula that would lean on itself."""


class Used(RungError):
    """A thing that stands in a formula, with the first one's name."""

    def __init__(self, by):
        RungError.__init__(self)
        self.by = by


class Held(RungError):
    """A thing that can't become so, with the first one whose worth would be lost."""

    def __init__(self, by):
        RungError.__init__(self)
        self.by = by


class BadDeed(RungError):
    """What is no deed by its form."""


class BadPage(RungError):
    """A page that can't be read, with its first bad row."""

    def __init__(self, row):
        RungError.__init__(self)
        self.row = row


class Stopped(RungError):
    """Several deeds that are not done, with the place and the word of the one refused."""

    def __init__(self, at, kind):
        RungError.__init__(self)
        self.at = at
        self.kind = kind


class RungMissing(LookupError):
    """The base of all refusals of a missing thing."""

    def __init__(self, *told):
        # LookupError keeps what is told when the object is made, so nothing is handed up
        self.word = self.__class__.__name__


class NoGuest(RungMissing):
    """A name that no guest has."""

    def __init__(self, name):
        RungMissing.__init__(self)
        self.name = name


class NoName(RungMissing):
    """A name that no thing has."""

    def __init__(self, name):
        RungMissing.__init__(self)
        self.name = name


class NothingLeft(RungMissing):
    """No step that could be taken back or done again."""
