"""A desk: works that answer lines."""

from rungfields.errors import RungError, RungMissing
from rungfields.polys import poly_text, read_poly
from rungfields.words import is_figures
from rungfields.works import Works

MOST_FIGURES = 2
DONE = "done"
WHAT = "what"
NONE = "none"
FIGURES = "0123456789"


def listed(told):
    """Names with blanks between."""
    return " ".join(told) if told else NONE


def number_told(words):
    """The field and the rests that words tell; None where some are no such."""
    field, rests = words[0], words[1:]
    if field[0] in FIGURES:
        if not is_figures(field, MOST_FIGURES):
            return None
        field = int(field)
    if not all([is_figures(rest, MOST_FIGURES) for rest in rests]):
        return None
    return field, [int(rest) for rest in rests]


def bring(works, words):
    """Let a guest come."""
    rule = read_poly(" ".join(words[1:]), prime=works.prime())
    works.bring(words[0], rule)
    return DONE


def leave(works, words):
    """Let a guest go."""
    works.leave(words[0])
    return DONE


def put(works, words):
    """Let a number come."""
    told = number_told(words[1:])
    if told is None:
        return WHAT
    works.put(words[0], told[0], told[1])
    return DONE


def fix(works, words):
    """Let a thing be a number."""
    told = number_told(words[1:])
    if told is None:
        return WHAT
    works.fix(words[0], told[0], told[1])
    return DONE


def lay(works, words):
    """Let a formula come."""
    works.lay(words[0], " ".join(words[1:]))
    return DONE


def change(works, words):
    """Let a thing be a formula."""
    works.change(words[0], " ".join(words[1:]))
    return DONE


def drop(works, words):
    """Let a thing go."""
    works.drop(words[0])
    return DONE


def undo(works, words):
    """Take the last step back."""
    works.undo()
    return DONE


def redo(works, words):
    """Do again what was taken back last."""
    works.redo()
    return DONE


def names(works, words):
    """The names of things."""
    return listed(works.names())


def guests(works, words):
    """The names of guests."""
    return listed(works.guests())


def worth(works, words):
    """A thing's worth."""
    degree, rests = works.worth(words[0])
    told = " ".join([str(rest) for rest in rests])
    return f"{degree}: {told}"


def formula(works, words):
    """A thing's formula."""
    told = works.formula(words[0])
    return NONE if told is None else told


def leans(works, words):
    """The names on which a thing leans."""
    return listed(works.leans(words[0]))


def least(works, words):
    """The least polynomial of a thing's worth."""
    told = works.tower().least(works.worth(words[0]))
    return poly_text(told, prime=works.prime())


def alike(works, words):
    """Whether two things' worths are alike."""
    return "yes" if works.tower().alike(works.worth(words[0]), works.worth(words[1])) else "no"


ANSWERS = {
    "bring": bring, "leave": leave, "put": put, "fix": fix, "lay": lay, "change": change, "drop": drop,
    "undo": undo, "redo": redo, "names": names, "guests": guests, "worth": worth, "formula": formula,
    "leans": leans, "least": least, "alike": alike,
}
JUST = {
    "leave": 1, "drop": 1, "undo": 0, "redo": 0, "names": 0, "guests": 0, "worth": 1, "formula": 1,
    "leans": 1, "least": 1, "alike": 2,
}
AT_LEAST = {"bring": 2, "put": 3, "fix": 3, "lay": 2, "change": 2}


def is_form(word, count):
    """Whether so many words may stand behind a first one."""
    if word in JUST:
        return count == JUST[word]
    return word in AT_LEAST and count >= AT_LEAST[word]


class Desk:
    """A desk that answers lines about works."""

    def __init__(self, works=None):
        self._works = Works() if works is None else works

    def works(self):
        """The works."""
        return self._works

    def say(self, line):
        """The answer to a line."""
        words = line.split(" ")
        # a word without signs stands where blanks do that belong to no form
        if "" in words or not is_form(words[0], len(words) - 1):
            return WHAT
        action = ANSWERS[words[0]]
        try:
            return action(self._works, words[1:])
        except (RungError, RungMissing) as error:
            return f"no {error.word}"
