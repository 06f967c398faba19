"""Torn texts, in which marks are unread, and what holds whatever they are."""

from whichhouse.backwards import has_want
from whichhouse.checks import check_letters, check_want
from whichhouse.errors import InvalidText, NoCode
from whichhouse.limits import MOST_UNREAD
from whichhouse.texts import UNREAD, plain_text, read_torn
from whichhouse.webs import Web


def readings(text, letters):
    """The ascending tuple of the plain texts of all readings."""
    check_torn(text)
    check_letters(letters)
    return tuple(sorted({plain_text(read_torn(whole)) for whole in filled(text, letters)}))


def sure(text, letters, want):
    """Whether all readings have what is wanted, "always", none of them, "never", or only "some"."""
    check_torn(text)
    check_letters(letters)
    check_want(want)
    wholes = filled(text, letters)
    if not wholes:
        raise NoCode()
    first = has_want(Web(wholes[0]), want)
    for whole in wholes:
        if has_want(Web(whole), want) != first:
            return "some"
    return "always" if first else "never"


def check_torn(text):
    """Raises InvalidText for what is no torn text."""
    if not isinstance(text, str) or text.count(UNREAD) > MOST_UNREAD:
        raise InvalidText(text)
    # A house has nine ties at most and there are twelve letters, so that each unread mark can be some letter.
    if read_torn(text) is None:
        raise InvalidText(text)


def filled(text, letters):
    """The texts of webs that come by putting one of the letters for each unread mark."""
    wholes = [text]
    for _ in range(text.count(UNREAD)):
        tried = [torn.replace(UNREAD, letter, 1) for torn in wholes for letter in letters]
        wholes = [whole for whole in tried if read_torn(whole) is not None]
    return wholes
