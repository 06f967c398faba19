"""Papers for the checker that show that a web does not have what is wanted."""

from whichhouse.chains import chain_from, shortest_parted
from whichhouse.kinds import is_integer
from whichhouse.links import head_of, unite
from whichhouse.walks import words_beside


class Paper:
    """Lines that come one by one, and which pairs they bind.

    For each pair near has those that stand beside it in a line, with the index of this line. Only
    pairs that are not bound yet are bound by a line, so that near has at most one chain from pair to
    pair, and the lines stay far fewer than the checker allows.
    """

    def __init__(self, houses):
        self.lines = []
        self.near = {(house, end): {} for house in range(houses) for end in range(houses)}
        self.places = {pair: place for place, pair in enumerate(list(self.near))}
        self.heads = list(range(houses * houses))

    def head(self, pair):
        """A number that all pairs have that are bound to one another."""
        return head_of(self.heads, self.places[pair])

    def write(self, pair, other, reason):
        """Writes a line, and returns its index."""
        self.lines.append((pair, other, reason))
        return len(self.lines) - 1

    def bind(self, pair, other, reason):
        """Binds two pairs by a line, and writes one with the other order behind it."""
        index = self.write(pair, other, reason)
        self.near[pair][other] = index
        self.near[other][pair] = self.write(other, pair, ("turn", index))
        unite(self.heads, self.places[pair], self.places[other])

    def line_over(self, chain):
        """The index of a line that has the first and the last pair of a chain."""
        index = self.near[chain[0]][chain[1]]
        for before, last in zip(chain[1:], chain[2:]):
            index = self.write(chain[0], last, ("chain", index, self.near[before][last]))
        return index


def lacking_paper(doors, want):
    """The paper for a web that does not have what is wanted."""
    paper = Paper(len(doors))
    bind_by_words(paper, doors)
    steps = steps_for(doors, want)
    before = -1
    while before < len(paper.lines):
        before = len(paper.lines)
        bind_by_steps(paper, steps)
    last = paper.line_over(shortest_parted(paper.near, want))
    return needed(paper.lines, last)


def bind_by_words(paper, doors):
    """Binds all pairs that words lead together."""
    for house in range(len(doors)):
        for other in range(house):
            words = words_beside(doors, house, other)
            for end, beside in words:
                pair, second = (house, end), (other, beside)
                if paper.head(pair) != paper.head(second):
                    paper.bind(pair, second, ("word", words[(end, beside)]))


def steps_for(doors, want):
    """The quadruples (word of a reason, mark, pair, longer pair) of all steps that bind, if what is wanted does so."""
    steps = []
    for house in range(len(doors)):
        for mark in doors[house]:
            end = doors[house][mark]
            for other in range(len(doors)):
                if want == "hand":
                    steps.append(("ahead", mark, (end, other), (house, other)))
                if want == "behind":
                    steps.append(("after", mark, (other, house), (other, end)))
    return steps


def bind_by_steps(paper, steps):
    """Binds the pairs to which steps with one mark lead from pairs that are bound."""
    first = {}
    for reason, mark, pair, longer in steps:
        near, start = first.setdefault((mark, paper.head(pair)), (pair, longer))
        if paper.head(start) != paper.head(longer):
            # From one pair alone such steps lead to pairs that words have bound already.
            index = paper.line_over(chain_from(paper.near, near, [pair]))
            paper.bind(start, longer, (reason, mark, index))


def needed(lines, last):
    """The lines up to the last one, without those that it does not rest on."""
    rests = {last: True}
    for at in range(last, -1, -1):
        if at in rests:
            for index in indexes_in(lines[at][2]):
                rests[index] = True
    left = sorted(list(rests))
    places = {index: place for place, index in enumerate(left)}
    return tuple([(lines[at][0], lines[at][1], moved(lines[at][2], places)) for at in left])


def indexes_in(reason):
    """The indexes of lines in a reason: they are all integers in it."""
    return [part for part in reason if is_integer(part)]


def moved(reason, places):
    """A reason with other indexes."""
    return tuple([places[part] if is_integer(part) else part for part in reason])
