"""Books, which keep webs under names, and claims that hold after each change."""

from whichhouse.checks import check_web
from whichhouse.claims import first_broken, holds, is_claim
from whichhouse.errors import Broken, InUse, InvalidClaim, InvalidDeeds, InvalidIndex, InvalidName, NothingToUndo
from whichhouse.errors import UnknownName
from whichhouse.kinds import is_index, is_name
from whichhouse.trials import Step, Trial

# The words of deeds, each with the number of elements of such a deed.
DEEDS = {"set": 3, "drop": 2, "claim": 2, "lift": 2}


class Shelf:
    """The webs and the row of claims that a book has behind a change. It never changes itself."""

    def __init__(self, webs, row):
        self.webs = webs
        self.row = row


class Book:
    """Webs under names, and claims about them. A step holds a shelf."""

    def __init__(self):
        self.step = Step(Shelf({}, ()), None)

    def __setitem__(self, at, worth):
        if not is_name(at):
            raise InvalidName(at)
        check_web(worth)
        shelf = self.step.held
        # Claims about other webs hold already.
        index = first_broken(shelf.row, at, worth)
        if index is not None:
            raise Broken(index)
        webs = dict(shelf.webs)
        webs[at] = worth
        self._take(webs, shelf.row)

    def __getitem__(self, at):
        self._check_known(at)
        return self.step.held.webs[at]

    def __iter__(self):
        raise TypeError("a book is not iterated over")

    def __contains__(self, x):
        return isinstance(x, str) and x in self.step.held.webs

    def __len__(self):
        return len(self.step.held.webs)

    def __eq__(self, other):
        return isinstance(other, Book) and self is other

    def drop(self, name):
        """Takes the web under a name away."""
        self._check_known(name)
        shelf = self.step.held
        for index, claim in enumerate(shelf.row):
            if claim[1] == name:
                raise InUse(index)
        self._take({other: shelf.webs[other] for other in shelf.webs if other != name}, shelf.row)

    def claim(self, claim):
        """Makes a claim, behind the others."""
        if not is_claim(claim):
            raise InvalidClaim(claim)
        self._check_known(claim[1])
        shelf = self.step.held
        if not holds(claim, shelf.webs[claim[1]], {}):
            raise Broken(len(shelf.row))
        self._take(shelf.webs, shelf.row + (claim,))

    def lift(self, index):
        """Takes a claim away."""
        shelf = self.step.held
        if not is_index(index, len(shelf.row)):
            raise InvalidIndex(index)
        self._take(shelf.webs, shelf.row[:index] + shelf.row[index + 1:])

    def undo(self):
        """Takes back the last change that has not been taken back."""
        if self.step.before is None:
            raise NothingToUndo()
        self.step = self.step.before

    @property
    def names(self):
        """The ascending tuple of the names."""
        return tuple(sorted(list(self.step.held.webs)))

    @property
    def claims(self):
        """The tuple of the claims."""
        return self.step.held.row

    @property
    def changes(self):
        """How many changes can be taken back."""
        return self.step.many

    def do_all(self, *deeds, watch=None):
        """Does all deeds and returns their number, or none of them if an error comes out."""
        for index, deed in enumerate(deeds):
            if not is_deed(deed):
                raise InvalidDeeds(index)
        step = self.step
        try:
            for deed in deeds:
                self._do(deed)
                if watch is not None:
                    watch(self)
            step = self.step
        finally:
            self.step = step
        return len(deeds)

    def trial(self):
        """For a with statement, behind whose rows the book is as it was when they began."""
        return Trial(self)

    def tried(self, action):
        """What a function returns that is called with the book within a trial."""
        with self.trial():
            return action(self)

    def _check_known(self, name):
        if name not in self:
            raise UnknownName(name)

    def _take(self, webs, row):
        self.step = Step(Shelf(webs, row), self.step)

    def _do(self, deed):
        if deed[0] == "set":
            self[deed[1]] = deed[2]
        elif deed[0] == "drop":
            self.drop(deed[1])
        elif deed[0] == "claim":
            self.claim(deed[1])
        else:
            self.lift(deed[1])


def is_deed(value):
    """Whether a value is a tuple of the word of a deed and as many elements."""
    if not isinstance(value, tuple) or not value or not isinstance(value[0], str):
        return False
    return DEEDS.get(value[0]) == len(value)
