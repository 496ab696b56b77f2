"""Values that several tests pass: wrong ones, and long ones."""

from pinnedgaps.errors import InvalidTable

SIXTY = 10 ** 60 - 1
SIXTY_ONE = 10 ** 60
LONG = 7 ** 3000
LONG_BOTTOM = 2 ** 6000


def deep(levels):
    """A list, nested so many times."""
    value = []
    for _ in range(levels):
        value = [value]
    return value


# No integers, no numbers, no tuples of numbers: each must be refused wherever one of these is asked for.
ODD_VALUES = (
    True, False, None, "", "1", "x" * 4000, "~", [], [1, 2], {}, {1: 2}, (), (1,), (1, 2, 3), (2, 4), (1, 0),
    (1, -2), (0, 2), (True, 2), (1, True), (None, 1), ("1", "2"), ((1, 2), 3), SIXTY_ONE, -SIXTY_ONE, 10 ** 99,
    [(1, 2)], {(1, 2): 3}, deep(7), (((((((1,),),),),),),), InvalidTable("an object of the package"),
)

# The same without what is an integer of any length.
NO_WHOLE_NUMBERS = tuple(value for value in ODD_VALUES if type(value) is not int)
