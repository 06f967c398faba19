"""Seekers, who do not know where in a web they stand, and learn it walk by walk."""

from whichhouse.checks import check_letters, check_web, check_word
from whichhouse.errors import Nowhere, NothingToUndo
from whichhouse.trials import Step, Trial


class Seeker:
    """Somebody who does not know where in a web he stands, at first anywhere.

    A step holds the list of the pairs that are possible: where he began and where he stands.
    """

    def __init__(self, web):
        check_web(web)
        self._web = web
        self.step = Step([(house, house) for house in range(web.houses)], None)

    def walk(self, word):
        """A word was walked."""
        check_word(word)
        ends = [(began, self._web.go(now, word)) for began, now in self.step.held]
        self._stand([pair for pair in ends if pair[1] is not None])

    def see(self, marks):
        """The house where he stands has just these marks."""
        check_letters(marks)
        self._stand([(began, now) for began, now in self.step.held if self._web.at(now) == marks])

    def _stand(self, pairs):
        if not pairs:
            raise Nowhere()
        self.step = Step(pairs, self.step)

    @property
    def now(self):
        """The ascending tuple of the houses where he may stand."""
        return tuple(sorted({now for _, now in self.step.held}))

    @property
    def began(self):
        """The ascending tuple of the houses where he may have begun."""
        # The pairs begin with all houses in their order, and steps only leave some out.
        return tuple([began for began, _ in self.step.held])

    @property
    def changes(self):
        """How many steps can be taken back."""
        return self.step.many

    def undo(self):
        """Takes back the last step that has not been taken back."""
        if self.step.before is None:
            raise NothingToUndo()
        self.step = self.step.before

    def trial(self):
        """For a with statement, behind whose rows the seeker is as it was when they began."""
        return Trial(self)

    def tried(self, action):
        """What a function returns that is called with the seeker within a trial."""
        with self.trial():
            return action(self)

    def __eq__(self, other):
        return isinstance(other, Seeker) and self is other
