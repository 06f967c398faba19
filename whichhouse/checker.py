"""The checker: whether a paper shows what a claim says of a web, whatever both are."""

from whichhouse.kinds import is_count, is_index, is_mark, is_pair, is_want, is_word
from whichhouse.limits import MOST_LINES
from whichhouse.links import are_parted, goes_back, wanted_table
from whichhouse.texts import read_ties
from whichhouse.webs import doors_of

# The words of reasons, each with the number of elements of such a reason.
REASONS = {"word": 2, "turn": 2, "chain": 3, "ahead": 3, "after": 3}


def accepts(claim, paper):
    """Whether a claim is one for the checker, and a paper shows it."""
    if not is_tuple(claim, 3) or not isinstance(claim[0], str) or not is_want(claim[2]):
        return False
    ties = read_ties(claim[1])
    if ties is None:
        return False
    if claim[0] == "has":
        return shows_having(doors_of(ties), claim[2], paper)
    return claim[0] == "lacks" and shows_lacking(doors_of(ties), claim[2], paper)


def is_tuple(value, many):
    """Whether a value is a tuple of so many elements."""
    return isinstance(value, tuple) and len(value) == many


def shows_having(doors, want, paper):
    """Whether a paper is a table that joins what it must and parts what it must."""
    if not is_table(paper, len(doors)):
        return False
    table = wanted_table(doors, want)
    return table is not None and joins_classes(table, paper) and parts_all(want, paper)


def is_table(paper, houses):
    """Whether a paper is a tuple of as many rows of as many integers from 0 on as there are houses."""
    if not is_tuple(paper, houses):
        return False
    return all([is_tuple(row, houses) and all([is_count(number) for number in row]) for row in paper])


def joins_classes(table, paper):
    """Whether a paper has one number for all pairs of each class."""
    numbers = {}
    for classes, row in zip(table, paper):
        for number, told in zip(classes, row):
            if numbers.setdefault(number, told) != told:
                return False
    return True


def parts_all(want, paper):
    """Whether a table has unlike numbers for all pairs that are parted."""
    rows = list(zip(*paper)) if goes_back(want) else list(paper)
    return all([len(set(row)) == len(row) for row in rows])


def shows_lacking(doors, want, paper):
    """Whether a paper has right lines alone, and two pairs in the last one that are parted."""
    if not isinstance(paper, tuple) or not 1 <= len(paper) <= MOST_LINES:
        return False
    for at in range(len(paper)):
        if not is_line(paper[at], len(doors)) or not is_shown(doors, want, paper, at):
            return False
    return are_parted(want, paper[-1][0], paper[-1][1])


def is_line(line, houses):
    """Whether a line is a triple of two pairs and what has the form of a reason."""
    if not is_tuple(line, 3) or not is_pair(line[0], houses) or not is_pair(line[1], houses):
        return False
    reason = line[2]
    if not isinstance(reason, tuple) or not reason or not isinstance(reason[0], str):
        return False
    return REASONS.get(reason[0]) == len(reason)


def is_shown(doors, want, paper, at):
    """Whether the reason of a line shows it; all lines ahead of it are lines."""
    pair, other, reason = paper[at]
    if reason[0] == "word":
        return is_word(reason[1]) and leads(doors, reason[1], pair) and leads(doors, reason[1], other)
    if reason[0] == "turn":
        return is_index(reason[1], at) and paper[reason[1]][:2] == (other, pair)
    if reason[0] == "chain":
        return is_index(reason[1], at) and is_index(reason[2], at) and is_chain(paper, reason, pair, other)
    if not is_mark(reason[1]) or not is_index(reason[2], at):
        return False
    first, second, _ = paper[reason[2]]
    if reason[0] == "ahead":
        return want == "hand" and all([
            is_ahead(doors, reason[1], first, pair), is_ahead(doors, reason[1], second, other),
        ])
    return want == "behind" and all([
        is_after(doors, reason[1], first, pair), is_after(doors, reason[1], second, other),
    ])


def leads(doors, word, pair):
    """Whether a word leads a pair."""
    place = pair[0]
    for mark in word:
        if mark not in doors[place]:
            return False
        place = doors[place][mark]
    return place == pair[1]


def is_chain(paper, reason, pair, other):
    """Whether the two lines of a reason come from a pair to some third one and from there to the other pair."""
    line, later = paper[reason[1]], paper[reason[2]]
    return line[0] == pair and line[1] == later[0] and later[1] == other


def is_ahead(doors, mark, pair, longer):
    """Whether a pair becomes the longer one by a step with this mark ahead of it."""
    return longer[1] == pair[1] and doors[longer[0]].get(mark) == pair[0]


def is_after(doors, mark, pair, longer):
    """Whether a pair becomes the longer one by a step with this mark behind it."""
    return longer[0] == pair[0] and doors[pair[1]].get(mark) == longer[1]
