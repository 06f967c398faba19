"""Webs: houses, the ties between them, and the marks on the ties."""

from whichhouse.errors import InvalidHouse, InvalidMark, InvalidText, InvalidWord
from whichhouse.kinds import is_house, is_mark, is_word
from whichhouse.texts import count_houses, plain_text, read_ties


class Web:
    """Houses that hang together by ties, with a mark at both ends of each tie."""

    def __init__(self, text):
        ties = read_ties(text)
        if ties is None:
            raise InvalidText(text)
        self._text = text
        self._plain = plain_text(ties)
        self._ties = tuple(ties)
        self._doors = doors_of(ties)

    @property
    def text(self):
        """The text as it was given."""
        return self._text

    @property
    def plain(self):
        """The plain text."""
        return self._plain

    @property
    def houses(self):
        """How many houses there are."""
        return len(self._doors)

    @property
    def marks(self):
        """The ascending string of all letters that are marks somewhere."""
        return "".join(sorted({mark for door in self._doors for mark in door}))

    @property
    def ties(self):
        """The ascending tuple of the ties, the lesser house of each ahead."""
        return self._ties

    def at(self, house):
        """The ascending string of the marks at a house."""
        self._check_house(house)
        return "".join(sorted(self._doors[house]))

    def go(self, house, word):
        """The house where a word ends, None if it cannot be walked from this one."""
        self._check_house(house)
        if not is_word(word):
            raise InvalidWord(word)
        place = house
        for mark in word:
            if mark not in self._doors[place]:
                return None
            place = self._doors[place][mark]
        return place

    def changed(self, house, mark, other):
        """The web in which the tie with this mark at this house has another letter there."""
        self._check_house(house)
        taken = self._doors[house]
        if not is_mark(mark) or mark not in taken:
            raise InvalidMark(mark)
        if not is_mark(other) or other in taken:
            raise InvalidMark(other)
        return Web(plain_text([marked(tie, house, mark, other) for tie in self._ties]))

    def _check_house(self, house):
        if not is_house(house, len(self._doors)):
            raise InvalidHouse(house)

    def __eq__(self, other):
        return isinstance(other, Web) and self._plain == other._plain

    def __str__(self):
        return str(self._plain)


def doors_of(ties):
    """For each house a dict: to which house each of its marks leads."""
    doors = [{} for _ in range(count_houses(ties))]
    for low, mark, high, back in ties:
        doors[low][mark] = high
        doors[high][back] = low
    return doors


def marked(tie, house, mark, other):
    """The tie, with another letter at this house if it has this mark there."""
    low, first, high, last = tie
    if (low, first) == (house, mark):
        return (low, other, high, last)
    if (high, last) == (house, mark):
        return (low, first, high, other)
    return tie
