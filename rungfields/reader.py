"""Reading formulas word by word."""

from rungfields.words import is_figures, is_name

MOST_PARTS = 40
MOST_FIGURES = 6
KINDS = {"+": "plus", "-": "minus", "*": "times", "/": "over"}
STRONG = ("times", "over")
BRACKET = "("


def words_of(text):
    """The words and signs of a text with their places, blanks left out."""
    told = []
    at = 0
    while at < len(text):
        end = at + 1
        if is_wordly(text[at]):
            while end < len(text) and is_wordly(text[end]):
                end += 1
        if text[at] != " ":
            told.append((at, text[at:end]))
        at = end
    return told


def is_wordly(sign):
    """Whether a sign is a letter or a figure."""
    return sign.isascii() and sign.isalnum()


def goes_ahead(waiting, kind):
    """Whether what waits is put together ahead of a kind of trees behind it."""
    if waiting == BRACKET:
        return False
    return waiting in STRONG or kind not in STRONG


class Reader:
    """A formula that is read as far as some word."""

    def __init__(self):
        self._trees = []
        # what waits for a part behind it to be whole: kinds of trees, and brackets not yet closed
        self._waiting = []
        self._parts = 0
        self._awaited = "part"

    def take(self, word):
        """Read one word or sign more; False where it can't stand there."""
        if self._awaited == "part":
            return self._begin(word)
        if self._awaited == "sign":
            return self._go_on(word)
        return self._exponent(word)

    def _begin(self, word):
        """Read a word or sign with which a part begins."""
        if word == BRACKET:
            self._waiting.append(word)
            return True
        if is_name(word):
            self._trees.append(("name", word))
        elif is_figures(word, MOST_FIGURES):
            self._trees.append(("number", int(word)))
        else:
            return False
        self._parts += 1
        self._awaited = "sign"
        return True

    def _go_on(self, word):
        """Read a sign behind a part."""
        if word == ")":
            return self._close()
        if word in KINDS:
            return self._join(KINDS[word])
        if word not in ("^", "'") or self._parts == MOST_PARTS:
            return False
        self._parts += 1
        if word == "^":
            self._awaited = "exponent"
        else:
            self._trees[-1] = ("turned", self._trees[-1])
        return True

    def _exponent(self, word):
        """Read an exponent, or the sign ahead of it."""
        if word == "-" and self._awaited == "exponent":
            self._awaited = "less"
            return True
        if not is_figures(word, MOST_FIGURES):
            return False
        exponent = int(word) if self._awaited == "exponent" else -int(word)
        self._trees[-1] = ("power", self._trees[-1], exponent)
        self._awaited = "sign"
        return True

    def _close(self):
        """Close the last bracket that isn't closed yet."""
        self._fold("plus")
        if not self._waiting:
            return False
        self._waiting.pop()
        return True

    def _join(self, kind):
        """Let a part be the first one of two."""
        # a sign needs room for itself and for the part behind it
        if self._parts + 2 > MOST_PARTS:
            return False
        self._parts += 1
        self._fold(kind)
        self._waiting.append(kind)
        self._awaited = "part"
        return True

    def _fold(self, kind):
        """Put together what goes ahead of a kind of trees, back to the last bracket not yet closed."""
        while self._waiting and goes_ahead(self._waiting[-1], kind):
            second = self._trees.pop()
            self._trees[-1] = (self._waiting.pop(), self._trees[-1], second)

    def ended(self):
        """The tree of what was read; None where a formula can't end there."""
        if self._awaited != "sign":
            return None
        self._fold("plus")
        return None if self._waiting else self._trees[0]
