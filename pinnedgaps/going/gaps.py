"""Gaps of the redraw walk: how fast it comes to the shares, told by tables without a minus."""

from pinnedgaps.bags.lots import check_lots, has_all
from pinnedgaps.base.numbers import (
    added, check_halvings, check_number, compared, divided, fraction, is_number, is_row, least_that_holds, less,
    multiplied, pair_of, whole_row)
from pinnedgaps.base.tables import minus_row, rows_have_no_minus
from pinnedgaps.errors import InvalidOperation, InvalidRow
from pinnedgaps.going.redraw import lot_shares, redraw_walk, shorter_walk
from pinnedgaps.nearby.trickle import level_bounds, trickle_bounds

# Enough for the finest grid, which has 30 halvings.
_ROUNDED_BITS = 48


def gap_table(lots, gap):
    """The table of a number: it has no minus exactly if the number, at most 1, is a gap."""
    check_lots(lots)
    check_number(gap)
    return _table(lots, gap)


def is_gap(lots, value):
    """Whether the value is a number that is a gap."""
    check_lots(lots)
    return is_number(value) and _is_gap(shorter_walk(lots), pair_of(value))


def gap_row(lots, gap):
    """Any values whose flow is below the number times their variance, None if there are none."""
    check_lots(lots)
    check_number(gap)
    if _is_gap(shorter_walk(lots), pair_of(gap)):
        return None
    return minus_row(_table(lots, gap))


def near_gap(lots, halvings):
    """The greatest multiple of 1 / 2 ** halvings that is a gap."""
    check_lots(lots)
    check_halvings(halvings)
    steps = 1 << halvings
    walk = shorter_walk(lots)
    if _is_gap(walk, (1, 1)):
        return (1, 1)
    low = 0
    high = steps
    # Long weights make each trial slow. So a rounded walk tells where the end should be, and two trials prove it.
    guess = _last_gap(_rounded(walk), low, high, steps)
    for mark in (guess, guess + 1):
        if low < mark < high and _is_gap(walk, fraction(mark, steps)):
            low = mark
        elif low < mark < high:
            high = mark
    return fraction(_last_gap(walk, low, high, steps), steps)


def local_gap(lots, halvings):
    """The gap that the level bounds tell."""
    return _gap_of_bounds(level_bounds(lots, halvings))


def trickle_gap(lots, halvings):
    """The gap that the trickle bounds tell."""
    return _gap_of_bounds(trickle_bounds(lots, halvings))


def flow_of(lots, values):
    """The flow of values, a fraction."""
    check_values(lots, values)
    return _flow(lots, values)


def row_quotient(lots, values):
    """The quotient of the flow of values by their variance."""
    check_values(lots, values)
    return _quotient(lots, values)


def cut_quotient(lots, some):
    """The quotient of the values 1 at some lots and 0 at the others."""
    check_lots(lots)
    if not _is_cut(lots, some):
        raise InvalidOperation("there must be an ascending tuple of lots, not none and not all")
    return _quotient(lots, tuple([1 if lot in some else 0 for lot in lots.lots]))


def check_values(lots, values):
    """Refuses what are no weighted lots, and what are no numbers for them."""
    check_lots(lots)
    if not is_row(values, len(lots)):
        raise InvalidRow("there must be a tuple of one number for each lot")


def _is_cut(lots, value):
    """Whether the value is an ascending tuple of lots, not none and not all."""
    if not isinstance(value, tuple) or not 1 <= len(value) < len(lots):
        return False
    if not all([lot in lots for lot in value]):
        return False
    return all([low < high for low, high in zip(value, value[1:])])


def _table(lots, gap):
    """The table of a number, by rows: each one is a row of `_gap_row`, times the weight of its lot."""
    rows = redraw_walk(lots)
    shares = lot_shares(lots)
    weights = list(lots.weights.values())
    return tuple([
        tuple([multiplied(weights[at], entry) for entry in _gap_row(rows[at], shares, at, gap)])
        for at in range(len(rows))
    ])


def _gap_row(row, shares, at, gap):
    """A row of chances with the other sign, plus the gap times the shares, plus 1 less the gap at its own place."""
    found = [less(multiplied(gap, share), chance) for chance, share in zip(row, shares)]
    found[at] = added(found[at], less(1, gap))
    return found


def _is_gap(walk, gap):
    """Whether a fraction is a gap, `walk` being the pair of `shorter_walk`."""
    rows, shares = walk
    if compared(gap, 1) > 0:
        return False
    # The rows of the table add up to 0, so no value changes if one number is taken from all numbers of a row:
    # rows with 0 at the last place are enough.
    found = [_gap_row(row, shares, at, gap)[:-1] for at, row in enumerate(rows[:-1])]
    return rows_have_no_minus([whole_row(row)[0] for row in found])


def _last_gap(walk, low, high, steps):
    """The greatest integer whose quotient by `steps` is a gap; that of `low` is one, and that of `high` is none."""
    return least_that_holds(low, high, lambda middle: not _is_gap(walk, fraction(middle, steps))) - 1


def _rounded(walk):
    """The walk with all chances and shares cut to short fractions; what they tell is not proved."""
    rows, shares = walk
    return ([[_cut_short(chance) for chance in row] for row in rows], [_cut_short(share) for share in shares])


def _cut_short(number):
    top, bottom = number
    return fraction((top << _ROUNDED_BITS) // bottom, 1 << _ROUNDED_BITS)


def _gap_of_bounds(bounds):
    """The product of 1 less each bound of all levels, divided by the number of things of a lot."""
    gap = fraction(1, len(bounds) + 1)
    for bound in bounds:
        gap = multiplied(gap, less(1, bound))
    return gap


def _sums_of(pairs):
    """The triple of the sums of weights, of weights times numbers, and of weights times squares of numbers."""
    return (
        sum([weight for weight, number in pairs]),
        sum([weight * number for weight, number in pairs]),
        sum([weight * number ** 2 for weight, number in pairs]),
    )


def _flow(lots, values):
    """The flow: all that lots with one pin put into it is told by the sums over these lots."""
    numbers, scale = whole_row(values)
    flow = (0, 1)
    for pin in lots.pins(lots.size - 1):
        weight, led, squares = _sums_of([
            (lots.multiple_of(lot), number) for lot, number in zip(lots.lots, numbers) if has_all(lot, pin)
        ])
        flow = added(flow, fraction(weight * squares - led ** 2, weight))
    return divided(flow, (lots.size * lots.multiple_of(()) * scale ** 2, 1))


def variance_of(lots, values):
    """The variance of values, which are right."""
    numbers, scale = whole_row(values)
    total, led, squares = _sums_of([(lots.multiple_of(lot), number) for lot, number in zip(lots.lots, numbers)])
    return fraction(total * squares - led ** 2, (total * scale) ** 2)


def _quotient(lots, values):
    variance = variance_of(lots, values)
    if variance == (0, 1):
        raise InvalidOperation("the values have no variance")
    return divided(_flow(lots, values), variance)
