"""Weighted lots that several tests use."""

from itertools import combinations

from pinnedgaps.bags.lots import Lots
from tests.exact import Bag
from tests.samples import LONG, LONG_BOTTOM, ODD_VALUES, SIXTY


def mixed(at, most):
    """An integer from 1 to `most` that shows no pattern."""
    return (at * at * 29 + at * 53 + 7) % 101 % most + 1


def some_of(things, size, many, step, most):
    """So many of the lots of this size, taken in steps, with weights from 1 to `most`."""
    names = list(combinations(range(things), size))
    return Lots({names[at * step % len(names)]: mixed(at, most) for at in range(many)})


PAIRS = Lots.all_of(4, 2)
THREE = Lots({(0, 1, 2): 1, (0, 1, 3): 1, (0, 2, 3): 1})
# These fall apart: at (), and at (0,).
TWO = Lots({(0, 1, 2): 1, (3, 4, 5): 2})
HINGE = Lots({(0, 1, 2): 1, (0, 3, 4): (1, 2), (1, 2, 3): 3, (2, 3, 4): 1})
HEAVY = Lots({(0, 1): 1, (0, 2): 1, (0, 3): 1, (1, 2): 1, (1, 3): 1, (2, 3): 9})
CHAIN = Lots({(0, 1): 1, (1, 2): 5, (2, 3): 1})
ONE = Lots({(0, 2, 3, 5, 7): (3, 7)})
PAIR = Lots({(3, 6): 5})
SINGLE = Lots({(7,): 1})
SINGLES = Lots({(0,): 1, (2,): (1, 2), (3,): 7, (7,): (5, 3)})
FOURS = some_of(6, 4, 12, 7, 9)
FIVES = some_of(7, 5, 15, 11, 30)
UNLIKE = Lots({(0, 1, 2): (1, 3), (0, 1, 4): (22, 7), (1, 2, 4): (5, 11), (0, 2, 3): 2, (1, 3, 4): (1, 100)})
LONGS = Lots({(0, 1): (LONG, LONG_BOTTOM), (0, 2): (1, LONG_BOTTOM), (1, 2): SIXTY, (1, 3): (LONG_BOTTOM, LONG)})
SIXTIES = Lots({(0, 1, 2): SIXTY, (0, 1, 3): SIXTY - 10 ** 40, (0, 2, 3): 10 ** 59 + 1, (1, 2, 3): 3})
FORTY_PAIRS = Lots.all_of(8, 2)
FORTY_THREES = some_of(8, 3, 40, 23, 12)
FORTY_FOURS = some_of(8, 4, 40, 27, 12)
FORTY_FIVES = some_of(8, 5, 40, 23, 12)

SMALL = (PAIRS, THREE, TWO, HINGE, HEAVY, CHAIN, ONE, PAIR, SINGLE, SINGLES, FOURS, UNLIKE)
LARGE = (FORTY_PAIRS, FORTY_THREES, FORTY_FOURS, FORTY_FIVES)
ALL = SMALL + (FIVES, LONGS, SIXTIES) + LARGE

# Nothing of this is an object of `Lots`.
NO_LOTS = ODD_VALUES + (Lots, {(0, 1): 1}, ((0, 1),), (0, 1), [PAIRS], (PAIRS,), {(0,): PAIRS})

# Nothing of this is a pin of PAIRS, nor a lot of it.
NO_PINS = tuple(value for value in ODD_VALUES if repr(value) not in ("()", "(1,)", "(0, 2)")) + (
    (4,), (0, 4), (0, 0), (1, 0), (-1,), (-1, 0), (0, 1, 2), (0, 1, 2, 3), [0], [0, 1], (True,), (0, True),
    (False, 1), ((0, 1),), ((0, 1), 1), ("0",), (None,), (0, None), 0, 1, {0: 1}, {(0, 1): 1}, PAIRS, (PAIRS,),
    (0, [1]), (0, {}), (0, 10 ** 60), (8,), (0, 8))

# No integers from 0 to 7, whatever else is asked for.
NO_SIZES = ODD_VALUES + (-1, 8, (1, 1), PAIRS)


def bag_of(lots):
    return Bag(lots.weights)


def small_families(things, size):
    """All weighted lots of this size of so many things, with the weights 1."""
    names = list(combinations(range(things), size))
    for some in range(1, 2 ** len(names)):
        yield Lots.even(tuple(name for at, name in enumerate(names) if some >> at & 1))
