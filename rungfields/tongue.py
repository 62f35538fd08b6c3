"""Formulas: texts read to trees, and trees written."""

from rungfields.errors import BadText
from rungfields.reader import Reader, words_of

SIGNS = {"plus": "+", "minus": "-", "times": "*", "over": "/"}
WEAK = ("plus", "minus")


def read(text):
    """The tree of a formula's text."""
    reader = Reader()
    for at, word in words_of(text):
        if not reader.take(word):
            raise BadText(at)
    tree = reader.ended()
    if tree is None:
        raise BadText(len(text))
    return tree


def write(tree):
    """The text of a tree, with as few brackets as can be."""
    kind = tree[0]
    if kind == "name":
        return tree[1]
    if kind == "number":
        return str(tree[1])
    if kind == "turned":
        return f"{bracketed(tree[1], list(SIGNS))}'"
    if kind == "power":
        return f"{bracketed(tree[1], list(SIGNS))}^{tree[2]}"
    if kind in WEAK:
        return f"{write(tree[1])} {SIGNS[kind]} {bracketed(tree[2], WEAK)}"
    return f"{bracketed(tree[1], WEAK)} {SIGNS[kind]} {bracketed(tree[2], list(SIGNS))}"


def bracketed(tree, kinds):
    """A tree's text, in brackets where it is of some kinds."""
    if tree[0] in kinds:
        return f"({write(tree)})"
    return write(tree)
