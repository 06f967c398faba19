"""Back codes, which tell of words that end together whether they began together."""

from whichhouse.checks import check_want, check_web
from whichhouse.links import bound_behind, linked_back, wanted_table
from whichhouse.webs import doors_of


def has_back(web):
    """Whether the web has a back code."""
    return back_codes(web) is not None


def back_codes(web):
    """The table of the classes, None if there is no back code."""
    check_web(web)
    return linked_back(doors_of(web.ties))


def can_behind(web):
    """Whether the web has a back code that can be handed on."""
    return behind_codes(web) is not None


def behind_codes(web):
    """The table of the classes bound behind, None if there is no back code that can be handed on."""
    check_web(web)
    return bound_behind(doors_of(web.ties))


def behind_table(web):
    """The ascending tuple of the triples (number, mark, number of the word and the mark), None likewise."""
    table = behind_codes(web)
    if table is None:
        return None
    doors = doors_of(web.ties)
    return tuple(sorted({
        (row[end], mark, row[doors[end][mark]])
        for row in table
        for end in range(len(doors))
        for mark in doors[end]
    }))


def has_want(web, want):
    """Whether the web has what is wanted."""
    check_web(web)
    check_want(want)
    return wanted_table(doors_of(web.ties), want) is not None
