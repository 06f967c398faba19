"""Webs with known good marks, made by a rule: rings, boards and numbered houses."""

from whichhouse.checks import check_web
from whichhouse.errors import InvalidCount, TooMany
from whichhouse.kinds import is_integer
from whichhouse.limits import MARKS, MOST_HOUSES
from whichhouse.texts import plain_text, tie_between
from whichhouse.webs import Web

# Two houses would be tied twice, by the way on and by the way back.
LEAST_ROUND = 3


def ring(houses):
    """The ring of so many houses, with the mark a to the next house and b back."""
    check_round(houses)
    return web_of([tie_between(house, "a", (house + 1) % houses, "b") for house in range(houses)])


def board(wide, high):
    """The board of so many rows, with a and b along the rows, c and d from row to row, all round."""
    check_round(wide)
    check_round(high)
    if wide * high > MOST_HOUSES:
        raise TooMany(MOST_HOUSES)
    ties = []
    for row in range(high):
        for place in range(wide):
            house = row * wide + place
            ties.append(tie_between(house, "a", row * wide + (place + 1) % wide, "b"))
            ties.append(tie_between(house, "c", (row + 1) % high * wide + place, "d"))
    return web_of(ties)


def check_round(houses):
    """Raises InvalidCount for what is no number of houses that stand in a ring."""
    if not is_integer(houses) or not LEAST_ROUND <= houses <= MOST_HOUSES:
        raise InvalidCount(houses)


def web_of(ties):
    """The web with these ties in any order, given by its plain text."""
    return Web(plain_text(ties))


def numbered(web):
    """The web with the same ties, in which a mark tells how much further the other house is, all round."""
    check_web(web)
    return web_of([
        (low, mark_for(high - low, web.houses), high, mark_for(low - high, web.houses))
        for low, high in tied_pairs(web)
    ])


def mark_for(further, houses):
    """The mark of a tie to a house that is so much further, of so many houses."""
    return MARKS[further % houses - 1]


def same_ties(web, other):
    """Whether in both webs the same houses are tied."""
    check_web(web)
    check_web(other)
    return tied_pairs(web) == tied_pairs(other)


def tied_pairs(web):
    """The ascending list of the pairs of houses that are tied, the lesser one ahead."""
    return sorted([(tie[0], tie[2]) for tie in web.ties])
