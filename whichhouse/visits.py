"""Walks that come to all houses and back, and what a walk needs that tries each tie."""

from whichhouse.checks import check_house, check_web


def visit(web, house):
    """A word that comes from a house to all houses and back, with two steps for each other house."""
    check_web(web)
    check_house(web, house)
    return visit_behind(ways_of(web), house, [])


def ways_of(web):
    """For each house a list of its ties: the mark, the other house and the mark back."""
    ways = [[] for _ in range(web.houses)]
    for low, mark, high, back in web.ties:
        ways[low].append((mark, high, back))
        ways[high].append((back, low, mark))
    return ways


def visit_behind(ways, house, seen):
    """The marks of a walk from a house to all that are reached by way of it, and back to it.

    Seen are the houses where the walk was before; those where it comes are added.
    """
    seen.append(house)
    marks = ""
    for mark, other, back in ways[house]:
        if other not in seen:
            marks = marks + mark + visit_behind(ways, other, seen) + back
    return marks


def steps_without(web):
    """The steps that a walk needs that tries each tie, there and back."""
    check_web(web)
    return 2 * len(web.ties)
