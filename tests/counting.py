"""Ways of counting that the tests have of their own, straight from the words of the document.

What a word does is told by the tuple of its ends: for each house where the word ends that is walked
from it, None if it cannot be walked from there.
"""

import itertools
import random

from whichhouse.webs import Web

LETTERS = "abcdefghijkl"
TURNING = Web("0 a 1 b\n1 a 2 b\n2 a 0 b")
PATH = Web("2 a 1 b\n0 a 1 a")
FOUR = Web("0 a 1 a\n1 b 2 a\n2 b 3 a")
WANTS = ("code", "hand", "back", "behind")
# A web for each way to have some of the four in this order, and not the others.
EACH_WAY = (
    ((False, False, False, False), Web("0 a 1 a\n0 b 2 b\n1 b 2 a")),
    ((False, False, True, False), Web("0 b 1 a\n0 a 2 c\n0 c 3 d\n1 b 2 d")),
    ((False, False, True, True), Web("0 a 2 b\n0 b 3 d\n1 c 2 a\n2 d 3 b")),
    ((True, False, False, False), Web("0 c 1 a\n0 b 2 d\n1 d 2 a\n1 c 3 a")),
    ((True, False, True, False), Web("0 d 1 e\n0 c 3 c\n1 d 2 c\n1 b 3 b")),
    ((True, False, True, True), Web("0 j 2 g\n0 a 3 i\n1 g 3 a\n2 i 3 c")),
    ((True, True, False, False), Web("0 b 1 c\n0 c 2 c")),
    ((True, True, True, False), Web("0 i 1 g\n1 f 2 d\n1 b 3 g\n2 i 3 d")),
    ((True, True, True, True), Web("0 a 2 a\n1 b 2 b")),
)
# They have codes, and the fewest values for one are more than there are houses.
CROWDED = (
    (4, Web("0 c 1 c\n0 b 2 b\n1 a 2 a")),
    (5, Web("0 b 1 d\n0 i 3 f\n1 a 2 j\n1 b 3 i\n2 e 3 d")),
    (5, Web("0 c 1 d\n0 b 2 b\n1 c 2 a\n1 a 3 f")),
    (5, Web("0 j 1 h\n0 a 2 b\n0 g 3 g\n1 f 2 k\n1 j 3 f")),
    (6, Web("0 d 1 c\n0 a 2 e\n0 b 3 e\n1 d 2 f\n1 e 3 a")),
    (6, Web("0 g 1 i\n0 a 2 d\n0 f 3 b\n0 c 4 c\n1 f 2 b\n1 g 4 i")),
    (6, Web("0 a 2 b\n0 f 3 a\n0 b 4 a\n1 b 2 f\n2 c 4 c")),
    (7, Web("0 d 1 f\n0 j 2 h\n0 g 4 a\n1 a 2 f\n1 b 4 j\n2 j 3 e\n3 j 4 h")),
)
# Their fewest values are hard to find.
TANGLED = (
    (9, Web("0 g 3 f\n0 b 4 b\n0 k 7 c\n1 i 2 a\n1 c 4 i\n1 l 6 l\n1 f 8 h\n2 f 3 h\n2 e 4 a\n2 d 5 l\n"
             "2 h 7 d\n5 j 6 k\n5 c 8 l\n6 j 7 k")),
    (11, Web("0 g 2 b\n0 a 5 c\n0 k 6 e\n1 e 2 h\n1 l 5 a\n1 i 8 g\n2 l 7 l\n3 g 4 k\n3 f 5 d\n3 h 6 h\n"
             "4 b 5 f\n4 e 7 c\n4 i 9 d\n5 h 9 j\n6 k 9 i\n8 e 9 f")),
    (13, Web("0 i 3 c\n0 a 5 e\n1 j 3 f\n1 k 5 i\n1 e 8 g\n2 j 8 f\n2 i 9 l\n3 h 4 c\n3 g 9 e\n5 h 6 b\n"
             "6 a 7 e\n6 h 8 c\n7 f 9 i")),
)


def steps_of(web):
    """A dict: to which house each mark leads from each house, read off the text."""
    steps = {}
    for line in web.text.split("\n"):
        x, m, y, n = line.split(" ")
        steps[int(x), m] = int(y)
        steps[int(y), n] = int(x)
    return steps


def houses_of(web):
    return 1 + max(house for house, _ in steps_of(web))


def deeds_of(web):
    """All that words of growing length do: a dict from each tuple of ends to a shortest word with it."""
    steps, count = steps_of(web), houses_of(web)
    found = {}
    newest = [(tuple(range(count)), "")]
    while newest:
        longer = []
        for ends, word in newest:
            for mark in LETTERS:
                after = tuple(steps.get((end, mark)) for end in ends)
                if after not in found and after != (None,) * count:
                    found[after] = word + mark
                    longer.append((after, word + mark))
        newest = longer
    return found


def pairs_led(ends):
    return [(house, end) for house, end in enumerate(ends) if end is not None]


def together(groups):
    """The sets that come from these groups by putting together those that share something."""
    sets = []
    for group in groups:
        fresh = set(group)
        for one in [one for one in sets if one & fresh]:
            sets.remove(one)
            fresh |= one
        sets.append(fresh)
    return sorted(sets, key=min)


def linked_classes(web):
    return together(pairs_led(ends) for ends in deeds_of(web))


def wide_classes(web):
    """The classes closed by: (z, y) and (w, v) if one mark leads z to x, w to u, and (x, y), (u, v) are bound."""
    steps = steps_of(web)
    return closed(web, lambda x, y, m: [(z, y) for (z, n), end in steps.items() if n == m and end == x])


def behind_classes(web):
    """The classes closed by: (x, z) and (u, w) if one mark leads y to z, v to w, and (x, y), (u, v) are bound."""
    steps = steps_of(web)
    return closed(web, lambda x, y, m: [(x, steps[y, m])] if (y, m) in steps else [])


def closed(web, longer):
    sets = linked_classes(web)
    while True:
        groups = [[pair for x, y in one for pair in longer(x, y, m)] for one in sets for m in LETTERS]
        wider = together(sets + [group for group in groups if group])
        if wider == sets:
            return sets
        sets = wider


def parts_ends(sets):
    """Whether no set has two pairs with the same beginning."""
    return all(len({x for x, _ in one}) == len(one) for one in sets)


def parts_beginnings(sets):
    """Whether no set has two pairs with the same end."""
    return all(len({y for _, y in one}) == len(one) for one in sets)


def table_from(web, sets):
    """The table with a row for each house, the sets numbered in the order of their least pairs."""
    number = {pair: k for k, one in enumerate(sets) for pair in one}
    count = houses_of(web)
    return tuple(tuple(number[x, y] for y in range(count)) for x in range(count))


def wanted(web, want):
    """Whether the web has what is wanted, by the counting of the tests."""
    if want == "code":
        return parts_ends(linked_classes(web))
    if want == "hand":
        return parts_ends(wide_classes(web))
    if want == "back":
        return parts_beginnings(linked_classes(web))
    return parts_beginnings(behind_classes(web))


def web_of(ties):
    return Web("\n".join(f"{x} {m} {y} {n}" for x, m, y, n in ties))


def webs_on(pairs, letters):
    """All webs in which these houses are tied, with marks out of some letters."""
    degree = {}
    for house in itertools.chain(*pairs):
        degree[house] = degree.get(house, 0) + 1
    houses = sorted(degree)
    for rows in itertools.product(*[itertools.permutations(letters, degree[house]) for house in houses]):
        left = {house: list(row) for house, row in zip(houses, rows)}
        yield web_of((x, left[x].pop(), y, left[y].pop()) for x, y in pairs)


def random_web(source, houses, more, letters):
    """A web with so many houses, with a tree of ties and some more, its marks out of so many letters or more."""
    order = source.sample(range(houses), houses)
    pairs = {tuple(sorted((order[k], order[source.randrange(k)]))) for k in range(1, houses)}
    others = [pair for pair in itertools.combinations(range(houses), 2) if pair not in pairs]
    pairs |= set(source.sample(others, min(more, len(others))))
    degree = max(sum(house in pair for pair in pairs) for house in range(houses))
    left = [source.sample(LETTERS[:max(letters, degree)], max(letters, degree)) for _ in range(houses)]
    return web_of((x, left[x].pop(), y, left[y].pop()) for x, y in sorted(pairs))


def small_webs():
    """Webs of two to four houses, with a code and without one."""
    webs = [TURNING, PATH, FOUR] + [web for _, web in EACH_WAY]
    webs += webs_on([(0, 1)], "ab")
    webs += webs_on([(0, 1), (1, 2)], "abc")
    webs += webs_on([(0, 2), (0, 1)], "ab")
    webs += webs_on([(0, 1), (1, 2), (2, 0)], "ab")
    webs += list(webs_on([(0, 1), (1, 2), (2, 0)], "abc"))[::5]
    source = random.Random(7)
    for letters in (2, 3, 3, 4, 5, 6, 8, 12):
        for more in (0, 0, 0, 1, 2, 3):
            webs += [random_web(source, 4, more, letters) for _ in range(2)]
    return webs


def ring(houses):
    return web_of((x, "a", (x + 1) % houses, "b") for x in range(houses))


def numbered(web):
    """The web with the same ties, the mark of a tie told by how much further its other house is."""
    count = web.houses
    return web_of((x, LETTERS[(y - x) % count - 1], y, LETTERS[(x - y) % count - 1]) for x, _, y, _ in web.ties)


def all_tied(houses):
    """The web in which all houses are tied to one another, the marks told by how much further the others are."""
    pairs = itertools.combinations(range(houses), 2)
    return web_of((x, LETTERS[y - x - 1], y, LETTERS[x - y + houses - 1]) for x, y in pairs)


def board(wide, high):
    ties = []
    for row, column in itertools.product(range(high), range(wide)):
        house = row * wide + column
        ties.append((house, "a", row * wide + (column + 1) % wide, "b"))
        ties.append((house, "c", (row + 1) % high * wide + column, "d"))
    return web_of(ties)


def star(leaves, marks):
    """House 0 tied to so many others, which have these marks in turn."""
    return web_of((0, LETTERS[k], k + 1, marks[k % len(marks)]) for k in range(leaves))


def large_webs():
    """Webs of eight to ten houses of many kinds, with up to 45 ties."""
    source = random.Random(11)
    webs = [ring(10), ring(9), board(3, 3), all_tied(10), all_tied(9), all_tied(8), star(9, "a"), star(9, "abc")]
    for houses in (8, 9, 10):
        for more in (0, 0, 0, 1, 2, 5, 15, 36):
            webs.append(random_web(source, houses, more, 12))
            webs.append(numbered(webs[-1]))
            house = source.randrange(houses)
            free = [letter for letter in LETTERS if letter not in webs[-1].at(house)]
            webs.append(webs[-1].changed(house, webs[-1].at(house)[0], free[-1]))
    webs.append(random_web(source, 10, 36, 12))
    return webs


def turned_round(web):
    """An equal web, given with its lines the other way round and in the other order."""
    return web_of((y, n, x, m) for x, m, y, n in web.ties[::-1])
