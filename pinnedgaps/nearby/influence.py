"""Influences: how much a state at one place of a field changes the share of a state at another one."""

from pinnedgaps.base.numbers import (
    check_halvings, check_number, divided, fraction, greatest_of, grid_above, least_that_holds, less, multiplied,
    pair_of, whole_row)
from pinnedgaps.base.tables import rows_have_no_minus
from pinnedgaps.errors import TooMany
from pinnedgaps.twostate.fields import (
    check_field, check_pins, check_place, is_open, is_pins, lift_of, share_with, with_pin)

MAX_PLACES = 6
MAX_LISTED = 4


def open_places(field, pins):
    """The ascending tuple of the places that have both states in rows with the pins."""
    check_pins(field, pins)
    return tuple([place for place in range(field.size) if is_open(field, place, pins)])


def influence(field, one, other, pins):
    """The share of the other place with the first one pinned to 1, less that with it pinned to 0."""
    _check_places(field, one, other, pins)
    return lift_of(field, one, other, pins)


def covariance(field, one, other, pins):
    """The share of the rows with the state 1 at both places, less the product of both shares."""
    _check_places(field, one, other, pins)
    return _covariance(field, one, other, pins)


def influence_table(field, pins):
    """The rows of the influences of all places on all places."""
    check_pins(field, pins)
    places = range(field.size)
    return tuple([tuple([lift_of(field, one, other, pins) for other in places]) for one in places])


def covariance_table(field, pins):
    """The rows of the covariances of all places with all places."""
    check_pins(field, pins)
    places = range(field.size)
    return tuple([tuple([_covariance(field, one, other, pins) for other in places]) for one in places])


def influence_bound_table(field, pins, bound):
    """The table of a number: it has no minus exactly if the number is an influence bound."""
    check_pins(field, pins)
    check_number(bound)
    rows = covariance_table(field, pins)
    return tuple([
        tuple([multiplied(bound, entry) if at == place else less(0, entry) for at, entry in enumerate(row)])
        for place, row in enumerate(rows)
    ])


def is_influence_bound(field, pins, bound):
    """Whether the number is an influence bound."""
    check_pins(field, pins)
    check_number(bound)
    return _is_bound_of_rows(_whole_covariances(field, pins), pair_of(bound))


def near_influence(field, pins, halvings):
    """The least multiple of 1 / 2 ** halvings, from 0 on, that is an influence bound."""
    check_pins(field, pins)
    check_halvings(halvings)
    rows = _whole_covariances(field, pins)
    steps = 1 << halvings
    top, bottom = grid_above(_row_bound(rows), halvings)
    # 0 is a bound only if there are no influences at all, and then the row bound is 0, too.
    found = least_that_holds(
        0, top * (steps // bottom), lambda middle: _is_bound_of_rows(rows, fraction(middle, steps)))
    return fraction(found, steps)


def row_bound(field, pins):
    """The greatest sum of the sizes of the influences of one place on all others."""
    check_pins(field, pins)
    return _row_bound(_whole_covariances(field, pins))


def influence_gap(field, halvings):
    """The gap of the redraw walk of the rows that the influences with all pins tell."""
    check_field(field)
    check_halvings(halvings)
    if field.size > MAX_LISTED:
        raise TooMany(MAX_LISTED)
    gap = fraction(1, field.size)
    for count in range(field.size - 1):
        bounds = [near_influence(field, pins, halvings) for pins in _all_pins(field, count)]
        factor = less(1, divided(greatest_of(bounds), field.size - count - 1))
        gap = multiplied(gap, greatest_of([factor, (0, 1)]))
    return gap


def _check_places(field, one, other, pins):
    check_field(field)
    check_place(field, one)
    check_place(field, other)
    check_pins(field, pins)


def _covariance(field, one, other, pins):
    """The covariance; of a place and itself it is the share of 1, times that of 0."""
    shares = multiplied(share_with(field, one, pins), share_with(field, other, pins))
    return less(_share_of_both(field, one, other, pins), shares)


def _share_of_both(field, one, other, pins):
    """The share of the rows with the state 1 at both places."""
    if pins.get(one, 1) == 0 or pins.get(other, 1) == 0:
        return (0, 1)
    both = with_pin(with_pin(pins, one, 1), other, 1)
    return fraction(field.multiple_with(both), field.multiple_with(pins))


def _whole_covariances(field, pins):
    """The rows of all covariances, all multiplied by one number: integers."""
    entries = whole_row([entry for row in covariance_table(field, pins) for entry in row])[0]
    return [entries[at * field.size:(at + 1) * field.size] for at in range(field.size)]


def _is_bound_of_rows(rows, bound):
    """Whether a fraction is an influence bound for these rows of covariances, integers."""
    top, bottom = bound
    return rows_have_no_minus([
        [top * entry if at == place else -bottom * entry for at, entry in enumerate(row)]
        for place, row in enumerate(rows)
    ])


def _row_bound(rows):
    """The greatest sum of the sizes of influences: covariances, divided by that of the place and itself."""
    sums = [
        fraction(sum([abs(entry) for entry in row]) - row[place], row[place])
        for place, row in enumerate(rows) if row[place] > 0
    ]
    return greatest_of(sums + [(0, 1)])


def _all_pins(field, count):
    """The list of all pins of so many places."""
    found = [{}]
    for place in range(field.size):
        found = found + [with_pin(pins, place, state) for pins in found for state in (0, 1)]
    return [pins for pins in found if len(pins) == count and is_pins(field, pins)]
