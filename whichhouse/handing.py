"""Codes that can be handed on from a neighbour who knows only the mark of the tie."""

from whichhouse.checks import check_count, check_letter, check_web
from whichhouse.errors import NoCode
from whichhouse.links import bound_table
from whichhouse.webs import doors_of


def can_hand(web):
    """Whether the web has a code that can be handed on."""
    return hand_codes(web) is not None


def hand_codes(web):
    """The table of the wide classes, None if there is no code that can be handed on."""
    check_web(web)
    return bound_table(doors_of(web.ties))


def hand_table(web):
    """The ascending tuple of the triples (mark, number, number of the mark and the word), None likewise."""
    table = hand_codes(web)
    if table is None:
        return None
    doors = doors_of(web.ties)
    return tuple(sorted({
        (mark, number, own)
        for house in range(len(doors))
        for mark in doors[house]
        for number, own in zip(table[doors[house][mark]], table[house])
    }))


def handed(web, mark, code):
    """The number that is told by a mark and the number heard there, None if there is none."""
    check_web(web)
    check_letter(mark)
    check_count(code)
    table = hand_table(web)
    if table is None:
        raise NoCode()
    for letter, number, own in table:
        if (letter, number) == (mark, code):
            return own
    return None
