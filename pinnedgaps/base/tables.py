"""Tables: symmetric tables of numbers, and whether they have a minus.

All signs come from one elimination. It goes over integers alone: each row is
multiplied by the least integer that makes it whole, and each step divides by
the last pivot, which leaves no remainder, since all entries are determinants
of parts of the whole rows. So the integers stay as short as they can.
"""

from pinnedgaps.base.numbers import (
    added, common_divisor, fraction, is_row, is_within, multiplied, pair_of, whole_row)
from pinnedgaps.errors import InvalidOperation, InvalidRow, InvalidTable

MAX_TABLE = 40


def is_table(value):
    """Whether the value is a symmetric table of 1 to 40 rows of numbers."""
    if not isinstance(value, tuple) or not 1 <= len(value) <= MAX_TABLE:
        return False
    return _is_square(value, len(value)) and _is_symmetric(value)


def diagonal_table(numbers):
    """The table with these numbers at the diagonal, and 0 at all other places."""
    if not isinstance(numbers, tuple) or not 1 <= len(numbers) <= MAX_TABLE:
        raise InvalidOperation("there must be a tuple of 1 to 40 numbers")
    if not is_row(numbers, len(numbers)):
        raise InvalidOperation("the diagonal must have numbers alone")
    places = range(len(numbers))
    return tuple([
        tuple([pair_of(numbers[row]) if row == place else (0, 1) for place in places])
        for row in places
    ])


def has_no_minus(table):
    """Whether no value of the table is below 0."""
    _check_table(table)
    return rows_have_no_minus([whole_row(row)[0] for row in table])


def rows_have_no_minus(rows):
    """Whether a table has no minus whose rows, each multiplied by some integer above 0, are these lists of integers.

    It can stop early: if no place at the diagonal is ever below 0, each row
    with 0 there must be a row of 0, and no other pivots are needed.
    """
    last = 1
    while rows:
        if min([row[at] for at, row in enumerate(rows)]) < 0:
            return False
        line = rows[-1]
        pivot = line[-1]
        if pivot == 0 and any([entry != 0 for entry in line]):
            return False
        rows = [_cleared_at_end(row, line, last) for row in rows[:-1]]
        last = last if pivot == 0 else pivot
    return True


def type_of(table):
    """The triple of the numbers of plusses, of minuses, and of noughts."""
    _check_table(table)
    worths = _worths(_steps(table, False))
    plusses = len([worth for worth in worths if worth > 0])
    minuses = len([worth for worth in worths if worth < 0])
    return (plusses, minuses, len(worths) - plusses - minuses)


def diagonal_paper(table):
    """A pair of a change and of the diagonal of the table, changed by it."""
    _check_table(table)
    lines = _paper_lines(table)
    return (tuple([change for worth, change in lines]), tuple([worth for worth, change in lines]))


def is_diagonal_paper(table, value):
    """Whether the value is a diagonal paper of the table."""
    _check_table(table)
    if not isinstance(value, tuple) or len(value) != 2:
        return False
    change, diagonal = value
    if not _is_square(change, len(table)) or not is_row(diagonal, len(table)):
        return False
    wanted = diagonal_table(diagonal)
    if _products(table, change) != wanted:
        return False
    # If rows of the change, times factors, add up to 0, then each row with another
    # number than 0 at the diagonal has the factor 0: only those of noughts can do so.
    noughts = [at for at in range(len(table)) if wanted[at][at] == (0, 1)]
    return _are_independent([whole_row(change[at])[0] for at in noughts])


def minus_row(table):
    """A row at which the table has a value below 0, None if it has no minus."""
    _check_table(table)
    for worth, change in _paper_lines(table):
        if worth[0] < 0:
            return change
    return None


def is_minus_row(table, value):
    """Whether the value is a row at which the table has a value below 0."""
    _check_table(table)
    if not is_row(value, len(table)):
        return False
    return value_at(table, value)[0] < 0


def value_at(table, row):
    """The value of the table at a row of numbers, a fraction."""
    _check_table(table)
    if not is_row(row, len(table)):
        raise InvalidRow("there must be a tuple of as many numbers as the table has rows")
    return _products(table, (row,))[0][0]


def table_sum(one, other):
    """The table with the sums of the entries of two tables."""
    _check_table(one)
    _check_table(other)
    if len(one) != len(other):
        raise InvalidOperation("both tables must have as many rows")
    return tuple([
        tuple([added(x, y) for x, y in zip(row, other_row)])
        for row, other_row in zip(one, other)
    ])


def table_scaled(table, number):
    """The table times a number."""
    _check_table(table)
    return tuple([tuple([multiplied(entry, number) for entry in row]) for row in table])


def table_part(table, places):
    """The table that has the rows and the columns at these places."""
    _check_table(table)
    if not _are_places(places, len(table)):
        raise InvalidOperation("there must be an ascending tuple of one or more places of the table")
    return tuple([tuple([pair_of(table[row][place]) for place in places]) for row in places])


def changed_table(table, change):
    """The table, changed; the determinant of the change can be 0."""
    _check_table(table)
    if not _is_square(change, len(table)):
        raise InvalidOperation("there must be as many rows of as many numbers as in the table")
    return _products(table, change)


def determinant(table):
    """The determinant of the table, a fraction."""
    _check_table(table)
    pivot = 0
    scales = 1
    for pivot, scale, _ in _steps(table, False):
        scales = scales * scale
    # Noughts come last, so the last pivot is 0 if there is any.
    return fraction(pivot, scales)


def _check_table(table):
    if not is_table(table):
        raise InvalidTable("there must be a symmetric tuple of 1 to 40 rows of numbers")


def _is_square(value, count):
    """Whether the value is a tuple of so many rows of so many numbers."""
    if not isinstance(value, tuple) or len(value) != count:
        return False
    return all([is_row(row, count) for row in value])


def _is_symmetric(rows):
    places = range(len(rows))
    return all([
        pair_of(rows[row][place]) == pair_of(rows[place][row])
        for row in places for place in range(row)
    ])


def _are_places(value, count):
    """Whether the value is an ascending tuple of integers from 0 to count - 1, at least one."""
    if not isinstance(value, tuple) or len(value) == 0:
        return False
    if not all([is_within(place, 0, count - 1) for place in value]):
        return False
    return all([low < high for low, high in zip(value, value[1:])])


def _dot(row, other_row):
    return sum([x * y for x, y in zip(row, other_row)])


def _products(table, rows):
    """For each two of the rows, x and y, the sum of x[i] * y[j] times the entry in the row i at j."""
    flat, bottom = whole_row([entry for line in table for entry in line])
    count = len(table)
    entries = [flat[at * count:(at + 1) * count] for at in range(count)]
    whole_rows = [whole_row(row) for row in rows]
    found = []
    for row, scale in whole_rows:
        led = [_dot(row, column) for column in entries]
        found.append(tuple([
            fraction(_dot(led, other), bottom * scale * other_scale)
            for other, other_scale in whole_rows
        ]))
    return tuple(found)


def _steps(table, with_changes):
    """The steps of the elimination: triples of a pivot, the scale of its row, and its change.

    The change is the row of integers, times which the table's rows add up to
    the row of the pivot; it is [] without changes. Behind all pivots there
    are steps with the pivot 0, so that there is one step for each row.
    """
    rows, scales = _first_rows(table, with_changes)
    steps = []
    last = 1
    spot = _pivot_spot(rows)
    while spot is not None:
        place, other = spot
        if place != other:
            rows, scales = _merged(rows, scales, place, other)
        pivot = rows[place][place]
        steps.append((pivot, scales[place], rows[place][len(rows):]))
        rows = _taken_out(rows, place, last)
        scales = _without(scales, place)
        last = pivot
        spot = _pivot_spot(rows)
    return steps + [(0, scale, row[len(rows):]) for row, scale in zip(rows, scales)]


def _first_rows(table, with_changes):
    """The whole rows of the table, the changes behind them if wanted, and their scales."""
    rows = []
    scales = []
    for at, entries in enumerate(table):
        row, scale = whole_row(entries)
        change = [scale if place == at else 0 for place in range(len(table))]
        rows.append(row + change if with_changes else row)
        scales.append(scale)
    return (rows, scales)


def _pivot_spot(rows):
    """A place at the diagonal with another entry than 0, or else any such place, or None."""
    for place in range(len(rows)):
        if rows[place][place] != 0:
            return (place, place)
    for place in range(len(rows)):
        for other in range(len(rows)):
            if rows[place][other] != 0:
                return (place, other)
    return None


def _merged(rows, scales, place, other):
    """Rows and scales with one row and column added to another one.

    Where the diagonal has 0 for both, it has twice the entry of both then.
    """
    joined = [scales[other] * x + scales[place] * y for x, y in zip(rows[place], rows[other])]
    left = _replaced(rows, place, joined)
    left = [_replaced(line, place, line[place] + line[other]) for line in left]
    return (left, _replaced(scales, place, scales[place] * scales[other]))


def _replaced(items, place, item):
    return items[:place] + [item] + items[place + 1:]


def _without(items, place):
    return items[:place] + items[place + 1:]


def _taken_out(rows, place, last):
    """The rows that are left if the pivot's row and column are taken out."""
    pivot_row = rows[place]
    pivot = pivot_row[place]
    left = []
    for row in _without(rows, place):
        factor = row[place]
        cleared = [(pivot * x - factor * y) // last for x, y in zip(row, pivot_row)]
        left.append(_without(cleared, place))
    return left


def _cleared_at_end(row, line, last):
    """The row without its last place, which the row of the last pivot has cleared; a pivot of 0 clears nothing."""
    pivot = line[-1]
    factor = row[-1]
    if pivot == 0:
        return row[:-1]
    return [(pivot * x - factor * y) // last for x, y in zip(row[:-1], line)]


def _worths(steps):
    """The values of the table at the changes of the steps."""
    worths = []
    last = 1
    for pivot, scale, _ in steps:
        worths.append(last * pivot * scale)
        last = pivot
    return worths


def _paper_lines(table):
    """For each step the pair of a value and of the row at which the table has it."""
    steps = _steps(table, True)
    lines = []
    for worth, step in zip(_worths(steps), steps):
        change = step[2]
        common = common_divisor(change)
        row = tuple([(entry // common, 1) for entry in change])
        lines.append((fraction(worth, common * common), row))
    return lines


def _are_independent(rows):
    """Whether rows of integers add up to a row of 0 only with the factors 0."""
    while rows:
        pivot_row = rows[0]
        places = [place for place, entry in enumerate(pivot_row) if entry != 0]
        if not places:
            return False
        rows = [_cleared(row, pivot_row, places[-1]) for row in rows[1:]]
    return True


def _cleared(row, pivot_row, place):
    """The row with 0 at the place, by the pivot's row, without a common divisor."""
    if row[place] == 0:
        return row
    pivot = pivot_row[place]
    factor = row[place]
    mixed = [pivot * x - factor * y for x, y in zip(row, pivot_row)]
    common = common_divisor(mixed)
    if common == 0:
        return mixed
    return [entry // common for entry in mixed]
