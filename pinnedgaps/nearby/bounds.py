"""Bounds of local walks: how great the values of a local walk can be, told by tables without a minus."""

from pinnedgaps.base.numbers import (
    check_halvings, check_number, compared, fraction, is_row, least_that_holds, less, pair_of, whole_row)
from pinnedgaps.base.tables import is_minus_row, minus_row, rows_have_no_minus
from pinnedgaps.errors import InvalidOperation, InvalidRow
from pinnedgaps.nearby.local import check_near, check_room, pair_rows, things_left


def bound_table(lots, pin, bound):
    """The table of a number: it has no minus exactly if the number, at most 1, is a bound."""
    _check_bound(lots, pin, bound)
    return _table(lots, pin, bound)


def is_bound(lots, pin, bound):
    """Whether the number is a bound of the local walk."""
    _check_bound(lots, pin, bound)
    return is_bound_of_rows(pair_rows(lots, pin), pair_of(bound))


def near_bound(lots, pin, halvings):
    """The least multiple of 1 / 2 ** halvings from -1 on that is a bound."""
    check_near(lots, pin)
    check_halvings(halvings)
    check_room(lots, pin)
    rows = pair_rows(lots, pin)
    steps = 1 << halvings
    if is_bound_of_rows(rows, (-1, 1)):
        return (-1, 1)
    found = least_that_holds(-steps, steps, lambda middle: is_bound_of_rows(rows, fraction(middle, steps)))
    return fraction(found, steps)


def low_row(lots, pin, bound):
    """Any row whose quotient is above the bound, None if there is none."""
    _check_bound_to_1(lots, pin, bound)
    return minus_row(_table(lots, pin, bound))


def is_low_row(lots, pin, bound, value):
    """Whether the value is a row whose quotient is above the bound."""
    _check_bound_to_1(lots, pin, bound)
    # A row of one number alone has the value 0, so it is not among these rows.
    return is_minus_row(_table(lots, pin, bound), value)


def row_quotient_at(lots, pin, row):
    """The quotient of a row of numbers, one for each thing of the link."""
    check_near(lots, pin)
    if not _is_uneven_row(row, len(things_left(lots, pin))):
        raise InvalidRow("there must be a number for each thing of the link, and not one number alone")
    check_room(lots, pin)
    rows = pair_rows(lots, pin)
    sums = [sum(line) for line in rows]
    numbers = whole_row(row)[0]
    # To take the mean away from all numbers takes the same away from both sums.
    mean_part = sum([mass * number for mass, number in zip(sums, numbers)]) ** 2
    squares = sum([mass * number ** 2 for mass, number in zip(sums, numbers)])
    pairs = sum([
        many * number * other
        for line, number in zip(rows, numbers) for many, other in zip(line, numbers)
    ])
    return fraction(sum(sums) * pairs - mean_part, sum(sums) * squares - mean_part)


def value_stretch(lots, pin, halvings):
    """The pair of two fractions between which, or at whose higher one, the second value is."""
    high = near_bound(lots, pin, halvings)
    if high == (-1, 1):
        return (high, high)
    return (less(high, fraction(1, 1 << halvings)), high)


def is_bound_of_rows(rows, bound):
    """Whether a fraction is a bound of the local walk with these rows of pair weights, integers."""
    if compared(bound, 1) > 0:
        return False
    # The rows of the table add up to 0, so no value changes if one number is taken from all numbers of a row:
    # rows with 0 at the last place are enough.
    return rows_have_no_minus([row[:-1] for row in _bound_rows(rows, bound)[:-1]])


def _check_bound(lots, pin, bound):
    check_near(lots, pin)
    check_number(bound)
    check_room(lots, pin)


def _check_bound_to_1(lots, pin, bound):
    _check_bound(lots, pin, bound)
    if compared(bound, 1) > 0:
        raise InvalidOperation("bounds are at most 1")


def _table(lots, pin, bound):
    rows = pair_rows(lots, pin)
    top, bottom = lots.unit
    divisor = bottom * pair_of(bound)[1] * sum([sum(row) for row in rows])
    return tuple([
        tuple([fraction(entry * top, divisor) for entry in row])
        for row in _bound_rows(rows, pair_of(bound))
    ])


def _bound_rows(rows, bound):
    """The rows of the table of a fraction, times its bottom, times the sum of all masses: integers."""
    top, bottom = bound
    sums = [sum(line) for line in rows]
    total = sum(sums)
    found = []
    for place, row in enumerate(rows):
        entries = [(bottom - top) * sums[place] * mass - bottom * total * many for mass, many in zip(sums, row)]
        entries[place] += top * total * sums[place]
        found.append(entries)
    return found


def _is_uneven_row(value, count):
    """Whether the value is a tuple of so many numbers, not one number alone."""
    return is_row(value, count) and any([compared(number, value[0]) != 0 for number in value])
