"""Marks that are alike at both ends of ties, and the way back by them."""

from whichhouse.checks import check_web, check_word
from whichhouse.errors import NoCode
from whichhouse.walks import led


def alike_ends(web):
    """The ascending tuple of the pairs (mark, mark at the other end), None if some mark has two such."""
    check_web(web)
    pairs = sorted({pair for tie in web.ties for pair in ((tie[1], tie[3]), (tie[3], tie[1]))})
    # Each mark stands in some pair, so with more pairs than marks one has two at the other end.
    return tuple(pairs) if len(pairs) == len(web.marks) else None


def reading_back(web, word):
    """The word by which one goes back the way of a word, None if it can be walked from nowhere."""
    check_web(web)
    check_word(word)
    pairs = alike_ends(web)
    if pairs is None:
        raise NoCode()
    if not led(web, word):
        return None
    backs = dict(pairs)
    return "".join([backs[mark] for mark in word[::-1]])
