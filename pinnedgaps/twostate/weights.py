"""Weights of places and of ties: which ones tell a field, and the integers that stand for them."""

from pinnedgaps.base.numbers import (
    common_divisor, divided, is_above_0, is_number, is_within, multiplied, pair_of, whole_row)


def is_place_pair(value):
    """Whether the value is a pair of weights of a place, that of the state 0 being above 0."""
    if not isinstance(value, tuple) or len(value) != 2:
        return False
    return is_above_0(value[0]) and is_from_0(value[1])


def is_tie_table(value):
    """Whether the value is a pair of pairs of weights at a tie; only that of 1 and 1 can be 0."""
    if not isinstance(value, tuple) or len(value) != 2:
        return False
    if not isinstance(value[0], tuple) or len(value[0]) != 2:
        return False
    return is_above_0(value[0][0]) and is_above_0(value[0][1]) and is_place_pair(value[1])


def are_tie_weights(value, size):
    """Whether the value is a dict from ties to their weights."""
    if not isinstance(value, dict) or not all([_is_tie(tie, size) for tie in value]):
        return False
    return all([is_tie_table(weights) for weights in value.values()])


def are_ties(value, size):
    """Whether the value is an ascending tuple of ties."""
    if not isinstance(value, tuple) or not all([_is_tie(tie, size) for tie in value]):
        return False
    return all([low < high for low, high in zip(value, value[1:])])


def is_from_0(value):
    """Whether the value is a number from 0 on."""
    return is_number(value) and pair_of(value)[0] >= 0


def as_pairs(numbers):
    """The tuple of the numbers as fractions."""
    return tuple([pair_of(number) for number in numbers])


def turned(table):
    """The table of a tie, seen from its other place."""
    return ((table[0][0], table[1][0]), (table[0][1], table[1][1]))


def neighbours_of(size, ties):
    """For each place the ascending tuple of the places with a tie to it."""
    return [
        tuple([other for other in range(size) if (other, place) in ties or (place, other) in ties])
        for place in range(size)
    ]


def whole_ratio(numbers):
    """The list of integers without a common divisor that have the ratios of the numbers."""
    whole = whole_row(numbers)[0]
    common = common_divisor(whole)
    return [many // common for many in whole]


def whole_tables(ties):
    """The dict from all ties, both ways, to tables of integers with the ratios of their weights."""
    found = {}
    for low, high in ties:
        first, second = ties[(low, high)]
        whole = whole_ratio(first + second)
        found[(low, high)] = (tuple(whole[:2]), tuple(whole[2:]))
        found[(high, low)] = turned(found[(low, high)])
    return found


def row_multiples(places, ties):
    """The dict from all rows with weights above 0, ascending, to the products of integers that stand for weights."""
    rows = {(): 1}
    for weights in places:
        rows = _longer_rows(rows, weights, ties)
    return rows


def unit_of(places, ties, multiples):
    """The weight of the row of zeros, which is never 0, divided by its multiple."""
    weight = (1, 1)
    for weights in places:
        weight = multiplied(weight, weights[0])
    for tie in ties:
        weight = multiplied(weight, ties[tie][0][0])
    return divided(weight, (multiples[(0,) * len(places)], 1))


def _is_tie(value, size):
    """Whether the value is a pair of places, the first one below the other one."""
    if not isinstance(value, tuple) or len(value) != 2:
        return False
    return is_within(value[1], 0, size - 1) and is_within(value[0], 0, value[1] - 1)


def _longer_rows(rows, weights, ties):
    """The rows, each with either state of a further place behind it, left out where the product is 0."""
    longer = {}
    for row in rows:
        for state in (0, 1):
            many = rows[row] * weights[state] * _tie_product(row, state, ties)
            if many > 0:
                longer[row + (state,)] = many
    return longer


def _tie_product(row, state, ties):
    """The product of what stands for the weights at all ties of a further place with the places of the row."""
    found = 1
    for other, other_state in enumerate(row):
        tie = (other, len(row))
        if tie in ties:
            found = found * ties[tie][other_state][state]
    return found
