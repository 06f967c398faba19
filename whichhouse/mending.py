"""Changes of marks: the fewest by which a web gets what is wanted, and those that spoil it."""

from whichhouse.backwards import has_want
from whichhouse.checks import check_want, check_web
from whichhouse.errors import TooMany
from whichhouse.limits import MARKS, MOST_CHANGES

MOST_TIES = 6


def fewest_changes(web, want):
    """The least number of changes, up to 2, by which a web with what is wanted comes, None if there is none."""
    check_mending(web, want)
    found = mended(web, want)
    return None if found is None else found[0]


def mend(web, want):
    """A web with what is wanted that comes by so few changes, None if there is none."""
    check_mending(web, want)
    found = mended(web, want)
    return None if found is None else found[1]


def check_mending(web, want):
    """Raises the error of the first argument that is wrong, and TooMany for too many ties."""
    check_web(web)
    check_want(want)
    if len(web.ties) > MOST_TIES:
        raise TooMany(MOST_TIES)


def mended(web, want):
    """The least number of changes and a web that comes by them, None if they are too many."""
    near = [web]
    for many in range(MOST_CHANGES + 1):
        if many > 0:
            near = changed_once(near)
        for changed in near:
            if has_want(changed, want):
                return (many, changed)
    return None


def changed_once(webs):
    """The webs that come from these by a change, one of those that differ by the names of letters alone."""
    found = {}
    for web in webs:
        for house, mark, other in telling_changes(web):
            changed = web.changed(house, mark, other)
            found.setdefault(shape_of(changed), changed)
    return list(found.values())


def shape_of(web):
    """The plain text with the letters renamed in the order in which they come."""
    names = {}
    signs = []
    for sign in web.plain:
        if sign in MARKS:
            names.setdefault(sign, MARKS[len(names)])
        signs.append(names.get(sign, sign))
    return "".join(signs)


def telling_changes(web):
    """The changes of a web, those to letters that are no marks of it only to the first of these."""
    fresh = [letter for letter in MARKS if letter not in web.marks]
    return [change for change in changes_of(web) if change[2] not in fresh[1:]]


def changes_of(web):
    """The ascending list of all changes of a web."""
    return [
        (house, mark, other)
        for house in range(web.houses)
        for mark in web.at(house)
        for other in MARKS
        if other not in web.at(house)
    ]


def harms(web, want):
    """The ascending tuple of the changes behind which a web lacks what is wanted, None if it lacks it before."""
    check_web(web)
    check_want(want)
    if not has_want(web, want):
        return None
    return tuple([
        (house, mark, other)
        for house, mark, other in changes_of(web)
        if not has_want(web.changed(house, mark, other), want)
    ])
