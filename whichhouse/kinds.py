"""Of which kind a value is, whatever it may be."""

from whichhouse.limits import MARKS, MOST_WORD

WANTS = ("code", "hand", "back", "behind")
LETTERS = "abcdefghijklmnopqrstuvwxyz"
MOST_NAME = 8


def is_integer(value):
    """Whether it is an integer: True and False are none."""
    return isinstance(value, int) and not isinstance(value, bool)


def is_count(value):
    """Whether it is an integer from 0 on."""
    return is_integer(value) and value >= 0


def is_index(value, many):
    """Whether it is the index of one of so many things."""
    return is_count(value) and value < many


def is_house(value, houses):
    """Whether it is a house of a web with so many houses."""
    return is_index(value, houses)


def is_pair(value, houses):
    """Whether it is a pair of houses of a web with so many houses."""
    return isinstance(value, tuple) and len(value) == 2 and all([is_house(house, houses) for house in value])


def is_mark(value):
    """Whether it is a letter that may be a mark."""
    return isinstance(value, str) and len(value) == 1 and value in MARKS


def is_word(value):
    """Whether it is a word, which some web may have no walk for."""
    if not isinstance(value, str) or not 1 <= len(value) <= MOST_WORD:
        return False
    return all([is_mark(letter) for letter in value])


def is_letters(value):
    """Whether it is an ascending string of one or more letters that may be marks."""
    if not isinstance(value, str) or not value:
        return False
    # What stands in the order of MARKS, each letter once, is what is left of MARKS without the others.
    return value == "".join([mark for mark in MARKS if mark in value])


def is_want(value):
    """Whether it is one of the words for what a web may be wanted to have."""
    return isinstance(value, str) and value in WANTS


def is_name(value):
    """Whether it is a name for a web of a book."""
    if not isinstance(value, str) or not 1 <= len(value) <= MOST_NAME:
        return False
    return all([letter in LETTERS for letter in value])
