"""The classes of linked pairs, and the wide classes of bound ones, as tables.

Doors are a list with a dict for each house: to which house each mark leads. A table has a row for
each house x, with the number of the class of (x, y) for each house y.
"""


def wanted_table(doors, want):
    """The table of the classes by which a web has what is wanted, None if it does not have it."""
    if want == "code":
        return linked_table(doors)
    if want == "hand":
        return bound_table(doors)
    if want == "back":
        return linked_back(doors)
    return bound_behind(doors)


def goes_back(want):
    """Whether pairs with the same end are parted, and not those with the same beginning."""
    return want in ("back", "behind")


def are_parted(want, pair, other):
    """Whether no class may have both pairs: the same beginning and unlike ends, or backwards the other way."""
    if goes_back(want):
        return pair[1] == other[1] and pair[0] != other[0]
    return pair[0] == other[0] and pair[1] != other[1]


def linked_table(doors):
    """The table of the classes, None if one has two pairs with the same beginning."""
    count = len(doors)
    heads = list(range(count * count))
    for house in range(count):
        for other in range(house):
            ends = ends_beside(doors, house, other)
            if ends is None:
                return None
            for end in ends:
                unite(heads, house * count + end, other * count + ends[end])
    rows = [[head_of(heads, house * count + end) for end in range(count)] for house in range(count)]
    return renumbered(rows) if parts_ends(rows) else None


def ends_beside(doors, house, other):
    """For each end of a walk from a house the end of the same walk from the other one.

    None if two ends stand beside one of them: (house, end) is then linked with two pairs that begin
    at the other house, so that there is no code, and no more has to be looked at.
    """
    ends = {}
    waiting = [(house, other)]
    while waiting:
        here, there = waiting.pop()
        for mark in doors[here]:
            if mark not in doors[there]:
                continue
            end, beside = doors[here][mark], doors[there][mark]
            if end not in ends:
                ends[end] = beside
                waiting.append((end, beside))
            elif ends[end] != beside:
                return None
    return ends


def bound_table(doors):
    """The table of the wide classes, None if one has two pairs with the same beginning."""
    table = linked_table(doors)
    while table is not None:
        wider = widened(doors, table)
        if wider == table:
            return table
        table = wider if parts_ends(wider) else None
    return None


def widened(doors, table):
    """The table in which those classes are one from which one mark leads to one class."""
    heads = list(range(len(table) * len(table)))
    behind = {}
    for house in range(len(doors)):
        for mark in doors[house]:
            for number, ahead in zip(table[house], table[doors[house][mark]]):
                unite(heads, number, behind.setdefault((mark, ahead), number))
    return renumbered([[head_of(heads, number) for number in row] for row in table])


def head_of(heads, place):
    """The least one of all places that are united with this one."""
    while heads[place] != place:
        heads[place] = heads[heads[place]]
        place = heads[place]
    return place


def unite(heads, place, other):
    """Makes two places one, and all that are united with them."""
    one, two = head_of(heads, place), head_of(heads, other)
    heads[max(one, two)] = min(one, two)


def renumbered(rows):
    """The table of these rows, with numbers from 0 on in the order in which they come."""
    numbers = {}
    for row in rows:
        for value in row:
            numbers.setdefault(value, len(numbers))
    return tuple([tuple([numbers[value] for value in row]) for row in rows])


def parts_ends(rows):
    """Whether no row has a value twice."""
    return all([len(set(row)) == len(row) for row in rows])


def linked_back(doors):
    """The table of the classes, None if one has two pairs with the same end."""
    back = doors_back(doors)
    return None if back is None else turned(linked_table(back))


def bound_behind(doors):
    """The table of the classes bound behind, None if one has two pairs with the same end."""
    back = doors_back(doors)
    return None if back is None else turned(bound_table(back))


def doors_back(doors):
    """For each house a dict: from which house each mark leads to it.

    None if one mark leads two houses to it: their pairs then are linked, and have the same end.
    """
    back = [{} for _ in doors]
    for house in range(len(doors)):
        for mark in doors[house]:
            end = doors[house][mark]
            if mark in back[end]:
                return None
            back[end][mark] = house
    return back


def turned(table):
    """The table with ends and beginnings changed for one another, None for None."""
    if table is None:
        return None
    return renumbered(list(zip(*table)))
