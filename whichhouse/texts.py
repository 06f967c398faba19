"""The text of a web, read into its ties, and the plain text of ties.

A tie is a quadruple (house, mark, other house, its mark), the lesser house ahead.
"""

from whichhouse.kinds import is_mark
from whichhouse.limits import MOST_HOUSES

UNREAD = "?"


def read_ties(text):
    """The ascending list of the ties of a text, None if it is no text of a web."""
    if not isinstance(text, str) or UNREAD in text:
        return None
    return read_torn(text)


def read_torn(text):
    """The ascending list of the ties of a text in which marks may be unread, None if it is none of a web."""
    ties = []
    for line in text.split("\n"):
        tie = read_line(line)
        if tie is None:
            return None
        ties.append(tie)
    if not are_apart(ties) or not hang_together(ties):
        return None
    return sorted(ties)


def read_line(line):
    """The tie of a line, None if it tells none."""
    parts = line.split(" ")
    if len(parts) != 4:
        return None
    house, other = read_house(parts[0]), read_house(parts[2])
    mark, back = parts[1], parts[3]
    if house is None or other is None or house == other:
        return None
    if not may_be_mark(mark) or not may_be_mark(back):
        return None
    return tie_between(house, mark, other, back)


def tie_between(house, mark, other, back):
    """The tie of two houses in any order, each with its mark."""
    if house < other:
        return (house, mark, other, back)
    return (other, back, house, mark)


def may_be_mark(part):
    """Whether a part of a line writes a mark, or one that is unread."""
    return is_mark(part) or part == UNREAD


def read_house(part):
    """The integer that a part of a line writes, None if it writes no house."""
    return read_number(part, MOST_HOUSES - 1)


def read_number(part, most):
    """The integer from 0 up to the greatest one that a part of a line writes, None if it writes none."""
    for number in range(most + 1):
        if part == str(number):
            return number
    return None


def are_apart(ties):
    """Whether no houses are tied twice, and no house has a mark twice that is read."""
    pairs = {}
    ends = {}
    for low, mark, high, back in ties:
        if (low, high) in pairs or (low, mark) in ends or (high, back) in ends:
            return False
        pairs[(low, high)] = True
        for house, letter in ((low, mark), (high, back)):
            if letter != UNREAD:
                ends[(house, letter)] = True
    return True


def hang_together(ties):
    """Whether one comes from house 0 to each other one up to the greatest one."""
    reached = {0: True}
    before = 0
    while before < len(reached):
        before = len(reached)
        for tie in ties:
            if tie[0] in reached or tie[2] in reached:
                reached[tie[0]] = True
                reached[tie[2]] = True
    return len(reached) == count_houses(ties)


def count_houses(ties):
    """How many houses there are from 0 up to the greatest one."""
    return max([tie[2] for tie in ties]) + 1


def plain_text(ties):
    """The plain text of ties in any order."""
    # The quadruples ascend by the mark ahead of the greater house, the lines do not.
    rows = sorted([(low, high, mark, back) for low, mark, high, back in ties])
    return "\n".join([f"{low} {mark} {high} {back}" for low, high, mark, back in rows])
