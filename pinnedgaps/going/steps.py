"""Steps of the redraw walk from one lot, how far they are from the shares, and variances, which the walk makes fall.

A step is told by integers: values are led by the walk, first to the means of
the lots with one thing left out, then back to the lots.
"""

from math import lcm

from pinnedgaps.bags.lots import check_lots
from pinnedgaps.base.numbers import (
    check_number, check_within, compared, divided, fraction, is_above_0, least_that_holds, less, multiplied, power_of,
    whole_row)
from pinnedgaps.errors import InvalidOperation, InvalidPin, TooMany
from pinnedgaps.going.gaps import check_values, flow_of, is_gap, variance_of
from pinnedgaps.going.redraw import pins_of

MOST_STEPS = 24
MOST_ENOUGH = 1000


def shares_after(lots, lot, steps):
    """The chances of standing at each lot after so many steps from a lot."""
    _check_steps(lots, lot, steps)
    numbers, scale = _led_back(lots, lot, steps)
    # The walk goes there and back with chances whose ratio is that of the weights.
    scale = scale * lots.multiple_of(lot)
    return tuple([fraction(lots.multiple_of(other) * number, scale) for other, number in zip(lots.lots, numbers)])


def distance_after(lots, lot, steps):
    """The sum of the squares of all differences of chance and share, each divided by the share."""
    _check_steps(lots, lot, steps)
    numbers, scale = _led_back(lots, lot, steps)
    squares = sum([lots.multiple_of(other) * number ** 2 for other, number in zip(lots.lots, numbers)])
    ones = (scale * lots.multiple_of(lot)) ** 2
    return fraction(squares * lots.multiple_of(()) - ones, ones)


def mean_of(lots, values):
    """The sum of all values, each one times the share of its lot."""
    check_values(lots, values)
    numbers, scale = whole_row(values)
    led = sum([lots.multiple_of(lot) * number for lot, number in zip(lots.lots, numbers)])
    return fraction(led, lots.multiple_of(()) * scale)


def variance(lots, values):
    """The mean of the squares of the differences of all values from their mean."""
    check_values(lots, values)
    return variance_of(lots, values)


def left_variance(lots, values):
    """The mean of the variances that are left where one thing of a lot is drawn anew: it is the flow of the values."""
    return flow_of(lots, values)


def led_values(lots, values):
    """The values, each one becoming the mean of the values after one step from its lot."""
    check_values(lots, values)
    numbers, scale = whole_row(values)
    led, factor = _led(lots, numbers)
    return tuple([fraction(number, scale * factor) for number in led])


def steps_enough(lots, gap, lot, number):
    """The least number of steps for which the gap tells that the distance is at most this number."""
    check_lots(lots)
    check_number(gap)
    _check_lot(lots, lot)
    check_number(number)
    if not is_above_0(gap) or not is_above_0(number) or not is_gap(lots, gap):
        raise InvalidOperation("there must be a gap above 0 and a number above 0")
    distance = less(fraction(lots.multiple_of(()), lots.multiple_of(lot)), 1)
    if compared(distance, number) <= 0:
        return 0
    left = less(1, gap)
    return _least_steps(multiplied(left, left), divided(number, distance))


def _check_lot(lots, lot):
    if lot not in lots:
        raise InvalidPin("there must be one of the lots")


def _check_steps(lots, lot, steps):
    check_lots(lots)
    _check_lot(lots, lot)
    check_within(steps, 0, MOST_STEPS)


def _led(lots, numbers):
    """The pair of the integers, led by the walk, and of the integer by which they were multiplied for it."""
    pins = lots.pins(lots.size - 1)
    sums = {pin: 0 for pin in pins}
    for lot, number in zip(lots.lots, numbers):
        for pin in pins_of(lot):
            sums[pin] = sums[pin] + lots.multiple_of(lot) * number
    scale = 1
    for pin in pins:
        scale = lcm(scale, lots.multiple_of(pin))
    means = {pin: sums[pin] * (scale // lots.multiple_of(pin)) for pin in pins}
    return ([sum([means[pin] for pin in pins_of(lot)]) for lot in lots.lots], scale * lots.size)


def _led_back(lots, lot, steps):
    """The pair of the chances of being at a lot after so many steps from each lot, as integers, and of their scale."""
    numbers = [1 if other == lot else 0 for other in lots.lots]
    scale = 1
    for _ in range(steps):
        numbers, factor = _led(lots, numbers)
        scale = scale * factor
    return (numbers, scale)


def _least_steps(factor, limit):
    """The least exponent above 0 for which the power of a factor below 1 is at most the limit, which is below 1."""
    high = 1
    while not _is_enough(factor, limit, high):
        if high == MOST_ENOUGH:
            raise TooMany(MOST_ENOUGH)
        high = min(2 * high, MOST_ENOUGH)
    return least_that_holds(high // 2, high, lambda middle: _is_enough(factor, limit, middle))


def _is_enough(factor, limit, many):
    # Powers can be long: to compare products of integers is quicker here than to make one fraction of them.
    top, bottom = power_of(factor, many)
    return top * limit[1] <= bottom * limit[0]
