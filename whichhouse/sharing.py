"""Codes with few values: classes share a value if no pairs of theirs have one beginning.

The houses where the pairs of a class begin are told by an integer that has the bit x for the house x.
Values are boxes: the integer of a box has the bits of all classes in it.
"""

from whichhouse.limits import MOST_HOUSES
from whichhouse.links import renumbered


def shared_table(table):
    """The table of a code with as few values as can be, made from the table of the classes."""
    starts = starts_of(table)
    # The classes of the pairs that begin at one house have unlike values.
    many = len(table)
    box_of = boxes_for(starts, many)
    while box_of is None:
        many += 1
        box_of = boxes_for(starts, many)
    return renumbered([[box_of[number] for number in row] for row in table])


def starts_of(table):
    """For each class the houses where its pairs begin."""
    starts = {}
    for house in range(len(table)):
        for number in table[house]:
            starts[number] = starts.get(number, 0) | (1 << house)
    return [starts[number] for number in range(len(starts))]


def boxes_for(starts, many):
    """For each class the index of its box, None if so many boxes are too few."""
    hard, easy = hard_and_easy(starts, many)
    boxes = [0] * many
    box_of = {}
    if not put_all(hard, starts, boxes, box_of, {}):
        return None
    for number in easy:
        box = free_boxes(starts[number], boxes)[0]
        boxes[box] = boxes[box] | starts[number]
        box_of[number] = box
    return box_of


def hard_and_easy(starts, many):
    """Two lists of classes: those to put first, and those to put behind them, for which there is always a box.

    A class is easy if the others that are left are in its way in fewer than all boxes. It is then
    put behind them, and is in the way of none of them.
    """
    hard = sorted(range(len(starts)), key=lambda number: -size_of(starts[number]))
    easy = []
    before = -1
    while before < len(easy):
        before = len(easy)
        for number in list(hard):
            # The class itself is among those that are counted.
            if len([other for other in hard if starts[other] & starts[number]]) <= many:
                hard.remove(number)
                easy.append(number)
    return hard, easy[::-1]


def size_of(start):
    """How many houses the bits of an integer tell."""
    return len([house for house in range(MOST_HOUSES) if (start >> house) & 1])


def put_all(left, starts, boxes, box_of, failed):
    """Whether the classes that are left can be put into the boxes; if so, they are put."""
    if not left:
        return True
    # Boxes with the same bits are as good as one another, so only what the boxes hold counts.
    state = (tuple(sorted([starts[number] for number in left])), tuple(sorted(boxes)))
    if state in failed:
        return False
    number = tightest(left, starts, boxes)
    if number is not None:
        rest = [other for other in left if other != number]
        choice = free_boxes(starts[number], boxes)
        for box in choice:
            held = boxes[box]
            boxes[box] = held | starts[number]
            box_of[number] = box
            if put_all(rest, starts, boxes, box_of, failed):
                return True
            boxes[box] = held
    failed[state] = True
    return False


def tightest(left, starts, boxes):
    """The class with the least choice among those that are left, None if some have too few boxes."""
    best, least = left[0], len(boxes)
    for number in left:
        # Classes with the same beginnings need a box each.
        alike = len([other for other in left if starts[other] == starts[number]])
        spare = len([held for held in boxes if not held & starts[number]]) - alike
        if spare < 0:
            return None
        if spare < least:
            best, least = number, spare
    return best


def free_boxes(start, boxes):
    """The indexes of the boxes for a class with these beginnings, one for each content."""
    found = {}
    for box in range(len(boxes)):
        if not boxes[box] & start:
            found.setdefault(boxes[box], box)
    return list(found.values())
