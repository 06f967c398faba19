"""What the functions ask of their arguments: each check raises the error of its kind."""

from whichhouse.errors import InvalidCount, InvalidHouse, InvalidLetters, InvalidMark, InvalidPair, InvalidWant
from whichhouse.errors import InvalidWord, NotAWeb
from whichhouse.kinds import is_count, is_house, is_letters, is_mark, is_pair, is_want, is_word
from whichhouse.webs import Web


def check_web(web):
    """Raises NotAWeb for what is no web."""
    if not isinstance(web, Web):
        raise NotAWeb(web)


def check_want(want):
    """Raises InvalidWant for what is none of the words for what may be wanted."""
    if not is_want(want):
        raise InvalidWant(want)


def check_word(word):
    """Raises InvalidWord for what is no word."""
    if not is_word(word):
        raise InvalidWord(word)


def check_house(web, house):
    """Raises InvalidHouse for what is no house of the web."""
    if not is_house(house, web.houses):
        raise InvalidHouse(house)


def check_pair(web, pair):
    """Raises InvalidPair for what is no pair of houses of the web."""
    if not is_pair(pair, web.houses):
        raise InvalidPair(pair)


def check_letter(mark):
    """Raises InvalidMark for what is no letter that may be a mark."""
    if not is_mark(mark):
        raise InvalidMark(mark)


def check_count(count):
    """Raises InvalidCount for what is no integer from 0 on."""
    if not is_count(count):
        raise InvalidCount(count)


def check_letters(letters):
    """Raises InvalidLetters for what is no ascending string of letters that may be marks."""
    if not is_letters(letters):
        raise InvalidLetters(letters)
