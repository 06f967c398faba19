"""Words: which pairs they lead, and which words lead two pairs at once."""

from whichhouse.checks import check_pair, check_web, check_word
from whichhouse.webs import doors_of


def led(web, word):
    """The ascending tuple of all pairs that a word leads."""
    check_web(web)
    check_word(word)
    ends = [(house, web.go(house, word)) for house in range(web.houses)]
    return tuple([pair for pair in ends if pair[1] is not None])


def joined(web, pair, other):
    """A shortest word that leads both pairs, None if there is none."""
    check_web(web)
    check_pair(web, pair)
    check_pair(web, other)
    words = words_beside(doors_of(web.ties), pair[0], other[0])
    return words.get((pair[1], other[1]))


def unlike(web, word, other):
    """The ascending tuple of the houses from which two words end at unlike houses."""
    check_web(web)
    check_word(word)
    check_word(other)
    told = []
    for house in range(web.houses):
        end, beside = web.go(house, word), web.go(house, other)
        if end is not None and beside is not None and end != beside:
            told.append(house)
    return tuple(told)


def words_beside(doors, house, other):
    """For all two houses where one word ends from two houses a shortest such word."""
    words = {}
    queue = [(house, other, "")]
    at = 0
    while at < len(queue):
        here, there, word = queue[at]
        at += 1
        for mark in doors[here]:
            if mark not in doors[there]:
                continue
            end, beside = doors[here][mark], doors[there][mark]
            if (end, beside) not in words:
                words[(end, beside)] = word + mark
                queue.append((end, beside, word + mark))
    return words
