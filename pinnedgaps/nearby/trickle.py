"""Bounds of all local walks of a level, and how they trickle down from level to level."""

from pinnedgaps.bags.lots import check_lots
from pinnedgaps.base.numbers import check_halvings, check_number, check_within, compared, divided, is_row, less, pair_of
from pinnedgaps.errors import InvalidOperation, Refused
from pinnedgaps.nearby.bounds import is_bound, near_bound
from pinnedgaps.nearby.local import hangs_together

MOST_STEPS = 8


def level_bound(lots, size, halvings):
    """The greatest near bound of the local walks at pins of this size."""
    return _worst(lots, size, halvings)[0]


def worst_pin(lots, size, halvings):
    """The least pin of the size whose local walk has the level bound as its near bound."""
    return _worst(lots, size, halvings)[1]


def level_bounds(lots, halvings):
    """The tuple of the level bounds of all levels."""
    check_lots(lots)
    check_halvings(halvings)
    return tuple([level_bound(lots, size, halvings) for size in range(lots.size - 1)])


def are_level_bounds(lots, value):
    """Whether the value is a tuple with a bound for all local walks of each level."""
    check_lots(lots)
    if not is_row(value, lots.size - 1):
        return False
    return all([is_bound(lots, pin, bound) for size, bound in enumerate(value) for pin in lots.pins(size)])


def apart_pin(lots):
    """The least pin, by sizes, whose local walk does not hang together, None if there is none."""
    check_lots(lots)
    for size in range(lots.size - 1):
        for pin in lots.pins(size):
            if not hangs_together(lots, pin):
                return pin
    return None


def trickled(bound):
    """The trickled number: what a bound of one level gives for the level ahead of it."""
    check_number(bound)
    if compared(bound, 1) >= 0:
        raise InvalidOperation("only numbers below 1 trickle")
    return _next_bound(bound)


def trickle_row(bound, steps):
    """The tuple of the number, trickled 0, 1 and up to so many times."""
    check_number(bound)
    check_within(steps, 0, MOST_STEPS)
    if compared(bound, 1) > 0:
        raise InvalidOperation("only numbers up to 1 trickle")
    return _trickle_row(bound, steps)


def trickle_bounds(lots, halvings):
    """The bounds of all levels that come from that of the last level alone."""
    check_lots(lots)
    check_halvings(halvings)
    apart = apart_pin(lots)
    if apart is not None:
        raise Refused(("apart", apart))
    if lots.size == 1:
        return ()
    last = lots.size - 2
    return tuple(list(reversed(_trickle_row(level_bound(lots, last, halvings), last))))


def _worst(lots, size, halvings):
    """The pair of the level bound and of the least pin whose local walk has it as its near bound."""
    check_lots(lots)
    check_within(size, 0, lots.size - 2)
    check_halvings(halvings)
    worst = None
    for pin in lots.pins(size):
        found = near_bound(lots, pin, halvings)
        if worst is None or compared(found, worst[0]) > 0:
            worst = (found, pin)
    return worst


def _trickle_row(bound, steps):
    row = [pair_of(bound)]
    for _ in range(steps):
        row.append(_next_bound(row[-1]))
    return tuple(row)


def _next_bound(bound):
    """The number, trickled, or 1 if it is 1."""
    if compared(bound, (1, 2)) >= 0:
        return (1, 1)
    return divided(bound, less(1, bound))
