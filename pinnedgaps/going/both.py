"""Two walkers on the rows of a field, who draw the state of one place anew by one number."""

from pinnedgaps.base.numbers import (
    check_within, compared, divided, fraction, greatest_of, is_number, less, pair_of, sum_of, whole_row)
from pinnedgaps.errors import InvalidNumber, InvalidOperation, Refused
from pinnedgaps.twostate.fields import check_field, check_place, check_row, is_state_row

MOST_STEPS = 10


def chance(field, place, row):
    """The chance of the state 1 if the state of the place is drawn anew beside the row."""
    check_field(field)
    check_place(field, place)
    check_row(field, row)
    return _chance(field, place, row)


def redrawn(field, row, place, number):
    """The row with the state of the place drawn anew by a number."""
    check_row(field, row)
    check_place(field, place)
    if not is_number(number) or not 0 <= pair_of(number)[0] < pair_of(number)[1]:
        raise InvalidNumber(number)
    state = 1 if compared(number, _chance(field, place, row)) < 0 else 0
    return _with_state(row, place, state)


def dependence(field, one, other):
    """The greatest difference of the chances of a place beside two rows that differ at the other place alone."""
    check_field(field)
    check_place(field, one)
    check_place(field, other)
    return _dependence(field, one, other)


def dependence_table(field):
    """For each place the tuple of its dependences on all places."""
    check_field(field)
    places = range(field.size)
    return tuple([tuple([_dependence(field, one, other) for other in places]) for one in places])


def dependence_sum(field):
    """The greatest sum of the dependences of one place on all others."""
    return greatest_of([sum_of(row) for row in dependence_table(field)])


def dependence_gap(field):
    """The gap that the dependences tell."""
    found = dependence_sum(field)
    if compared(found, 1) >= 0:
        raise Refused(("sum", found))
    return divided(less(1, found), field.size)


def has_order(field):
    """Whether at each tie equal states have at least the product of the weights of unlike ones."""
    return order_fault(field) is None


def order_fault(field):
    """The least tie at which equal states have the lesser product, None if there is none."""
    check_field(field)
    for low, high in field.ties:
        table = field.whole_tie(low, high)
        if table[0][0] * table[1][1] < table[0][1] * table[1][0]:
            return (low, high)
    return None


def are_below(field, row, value):
    """Whether the value is a row of states, none of which is below that of the row at the same place."""
    check_row(field, row)
    if not is_state_row(field, value):
        return False
    return all([state <= other for state, other in zip(row, value)])


def corner_shares(field, steps):
    """The chances of the state 1 at all places behind so many steps, from the row of zeros and from that of ones."""
    check_field(field)
    check_within(steps, 0, MOST_STEPS)
    if not has_order(field):
        raise InvalidOperation("the field must keep the order")
    rows = _rows_with(field.size, list(range(field.size)))
    drawn = _drawn(field, rows)
    return (_corner(rows, drawn, rows[0], steps), _corner(rows, drawn, rows[-1], steps))


def _chance(field, place, row):
    none, one = field.whole_place(place)
    for other in field.neighbours(place):
        table = field.whole_tie(place, other)
        none = none * table[0][row[other]]
        one = one * table[1][row[other]]
    return fraction(one, none + one)


def _with_state(row, place, state):
    return row[:place] + (state,) + row[place + 1:]


def _rows_with(size, places):
    """The ascending list of all rows that have the state 0 at all other places than these."""
    rows = [()]
    for place in range(size):
        states = (0, 1) if place in places else (0,)
        rows = [row + (state,) for row in rows for state in states]
    return rows


def _dependence(field, one, other):
    beside = field.neighbours(one)
    if other not in beside:
        return (0, 1)
    # The chance hangs on the states of the neighbours alone.
    rows = _rows_with(field.size, [place for place in beside if place != other])
    return greatest_of([_difference(field, one, other, row) for row in rows])


def _difference(field, one, other, row):
    """The size of the difference of the chances of a place beside the row with either state at the other place."""
    top, bottom = less(_chance(field, one, _with_state(row, other, 1)), _chance(field, one, _with_state(row, other, 0)))
    return (abs(top), bottom)


def _drawn(field, rows):
    """The dict from all pairs of a place and a row to the chances that the place gets its state in the row.

    All of them are multiplied by one number, so that they are integers.
    """
    spots = [(place, row) for row in rows for place in range(field.size)]
    whole = whole_row([_state_chance(field, place, row) for place, row in spots])[0]
    return {spot: many for spot, many in zip(spots, whole)}


def _state_chance(field, place, row):
    found = _chance(field, place, row)
    return found if row[place] == 1 else less(1, found)


def _corner(rows, drawn, start, steps):
    """The chances of the state 1 at all places behind so many steps from a row; `rows` are all rows."""
    worths = {row: 1 if row == start else 0 for row in rows}
    for _ in range(steps):
        worths = {row: _came(worths, drawn, row) for row in rows}
    every = sum([worths[row] for row in rows])
    return tuple([
        fraction(sum([worths[row] for row in rows if row[place] == 1]), every) for place in range(len(start))
    ])


def _came(worths, drawn, row):
    """What comes to a row in one step, from itself and from the rows with another state at one place."""
    return sum([
        drawn[(place, row)] * (worths[row] + worths[_with_state(row, place, 1 - state)])
        for place, state in enumerate(row)
    ])
