"""Which words are names and numbers."""

MOST_LETTERS = 8


def is_name(told):
    """Whether something is a name: 1 to 8 small letters."""
    if not isinstance(told, str) or len(told) > MOST_LETTERS:
        return False
    return told.isascii() and told.isalpha() and told.islower()


def is_figures(word, most):
    """Whether a word is a number of so many figures at most, without a needless nought ahead."""
    if not word.isascii() or not word.isdigit() or len(word) > most:
        return False
    return word == "0" or word[0] != "0"
