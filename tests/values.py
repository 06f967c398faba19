"""Values of all kinds that tests pass where something else is wanted."""


class Stranger:
    """An object of a class of its own, equal to everything that asks it first."""

    def __eq__(self, other):
        return True

    __hash__ = None


def nested(depth):
    value = ()
    for _ in range(depth):
        value = [value]
    return value


# None of these is a string, and none is an integer.
ODD = (
    None, True, False, (), ("a",), [], ["a"], [0], {}, {"a": 1}, {"a"}, frozenset("a"),
    b"", b"a", b"0 a 1 a", object(), Stranger(), len, ValueError, ValueError("a"), nested(9), range(3),
)
NUMBERS = (-1, 0, 1, 7, 10, 10 ** 39, -(10 ** 39))
