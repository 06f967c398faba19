"""Codes: whether a web has one, its table by classes, the fewest values, and what speaks against it."""

from whichhouse.chains import shortest_chain
from whichhouse.checks import check_web, check_word
from whichhouse.errors import NoCode
from whichhouse.links import doors_back, linked_table
from whichhouse.sharing import shared_table
from whichhouse.walks import joined, led
from whichhouse.webs import doors_of


def has_code(web):
    """Whether the web has a code."""
    return codes(web) is not None


def codes(web):
    """The table of the classes, None if there is no code."""
    check_web(web)
    return linked_table(doors_of(web.ties))


def code_of(web, word):
    """The number of the class of the pairs that the word leads, None if it leads none."""
    check_web(web)
    check_word(word)
    table = codes(web)
    if table is None:
        raise NoCode()
    pairs = led(web, word)
    if not pairs:
        return None
    house, end = pairs[0]
    return table[house][end]


def fewest_codes(web):
    """The least number of values of a code, None if there is no code."""
    table = few_codes(web)
    if table is None:
        return None
    return len({value for row in table for value in row})


def few_codes(web):
    """The table of a code with as few values as can be, None if there is no code."""
    table = codes(web)
    return None if table is None else shared_table(table)


def quarrel(web):
    """A shortest chain of triples (pair, other, word) that bars a code, None if there is a code."""
    check_web(web)
    chain = shortest_chain(doors_of(web.ties))
    if chain is None:
        return None
    return tuple([(pair, other, joined(web, pair, other)) for pair, other in zip(chain, chain[1:])])


def group(web):
    """The numbers of words put together, by the numbers of both, if the web is drawn by a group."""
    table = codes(web)
    if table is None or not is_drawn(web, table):
        return None
    # The class c has the pair (0, c), so a word from there with the number d ends at the house
    # that is the number of both together.
    return tuple([tuple([row.index(number) for number in range(len(row))]) for row in table])


def is_drawn(web, table):
    """Whether a web with this table of classes is drawn by a group."""
    alike = all([web.at(house) == web.at(0) for house in range(web.houses)])
    return alike and max([max(row) for row in table]) < web.houses and doors_back(doors_of(web.ties)) is not None
