"""Chains of pairs, up to pairs that are parted.

For each pair near tells the pairs that may stand beside it in a chain.
"""

from whichhouse.links import are_parted
from whichhouse.walks import words_beside


def shortest_chain(doors):
    """A shortest chain that bars a code, one word leading each pair and the next one, None if there is none."""
    return shortest_parted(pairs_near(doors), "code")


def shortest_parted(near, want):
    """A shortest chain between two pairs that are parted, None if there is none."""
    best = None
    for pair in near:
        chain = chain_from(near, pair, [other for other in near if are_parted(want, pair, other)])
        if chain is not None and (best is None or len(chain) < len(best)):
            best = chain
    return best


def pairs_near(doors):
    """For each pair the list of the pairs with another beginning that one word leads together with it."""
    count = len(doors)
    near = {(house, end): [] for house in range(count) for end in range(count)}
    for house in range(count):
        for other in range(count):
            # One word never leads two pairs with one beginning.
            if house != other:
                for end, beside in words_beside(doors, house, other):
                    near[(house, end)].append((other, beside))
    return near


def chain_from(near, start, ends):
    """A shortest chain from a pair to one of these ends, which are others, None if there is none."""
    before = {start: start}
    queue = [start]
    at = 0
    while at < len(queue):
        pair = queue[at]
        at += 1
        for other in near[pair]:
            if other not in before:
                before[other] = pair
                if other in ends:
                    return chain_to(before, other)
                queue.append(other)
    return None


def chain_to(before, last):
    """The chain to its last pair, told by which pair comes before which; the first one before itself."""
    chain = [last]
    while before[chain[-1]] != chain[-1]:
        chain.append(before[chain[-1]])
    return chain[::-1]
