"""Of which kind a value is, whatever it may be."""

from whichhouse.limits import MARKS, MOST_WORD


def is_integer(value):
    """Whether it is an integer: True and False are none."""
    return isinstance(value, int) and not isinstance(value, bool)


def is_house(value, houses):
    """Whether it is a house of a web with so many houses."""
    return is_integer(value) and 0 <= value < houses


def is_mark(value):
    """Whether it is a letter that may be a mark."""
    return isinstance(value, str) and len(value) == 1 and value in MARKS


def is_word(value):
    """Whether it is a word, which some web may have no walk for."""
    if not isinstance(value, str) or not 1 <= len(value) <= MOST_WORD:
        return False
    return all([is_mark(letter) for letter in value])
