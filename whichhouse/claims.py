"""The claims of a book: their forms, and whether they hold of a web."""

from whichhouse.backwards import has_want
from whichhouse.codes import fewest_codes
from whichhouse.kinds import is_integer, is_want
from whichhouse.limits import MOST_CHANGES, MOST_CODES
from whichhouse.mending import MOST_TIES, fewest_changes


def is_claim(value):
    """Whether a value has one of the forms of a claim, whatever stands in the place of the name."""
    if not isinstance(value, tuple) or not value or not isinstance(value[0], str):
        return False
    if value[0] in ("has", "lacks"):
        return len(value) == 3 and is_want(value[2])
    if value[0] == "codes":
        return len(value) == 3 and is_integer(value[2]) and 1 <= value[2] <= MOST_CODES
    if value[0] == "near":
        return len(value) == 4 and is_want(value[2]) and is_integer(value[3]) and 0 <= value[3] <= MOST_CHANGES
    return False


def first_broken(claims, name, web):
    """The index of the first claim about a name that does not hold of a web, None if all hold."""
    known = {}
    for index, claim in enumerate(claims):
        if claim[1] == name and not holds(claim, web, known):
            return index
    return None


def holds(claim, web, known):
    """Whether a claim holds of a web; known keeps what was found out of this web."""
    subject = subject_of(claim)
    if subject not in known:
        known[subject] = found_out(subject, web)
    fact = known[subject]
    if claim[0] == "has":
        return fact
    if claim[0] == "lacks":
        return not fact
    return fact is not None and fact <= claim[-1]


def subject_of(claim):
    """What a claim rests on: claims that are alike but for their names and numbers rest on the same."""
    if claim[0] == "codes":
        return ("codes",)
    if claim[0] == "near":
        return ("near", claim[2])
    return ("has", claim[2])


def found_out(subject, web):
    """Whether a web has what is wanted, or the least number of codes or changes, None if there is none."""
    if subject[0] == "codes":
        return fewest_codes(web)
    if subject[0] == "has":
        return has_want(web, subject[1])
    return fewest_changes(web, subject[1]) if len(web.ties) <= MOST_TIES else None
