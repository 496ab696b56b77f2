"""Rows of states as lots, and lots that are made of other lots."""

from pinnedgaps.bags.lots import Lots, check_lots, is_lot, is_thing, together
from pinnedgaps.base.numbers import check_within, is_above_0, is_within, multiplied
from pinnedgaps.errors import InvalidLots, InvalidOperation, InvalidRow, TooMany

MAX_THINGS = 8
MAX_LOTS = 40
MAX_SIZE = 5


def rows_lots(rows, states):
    """The weighted lots of the rows of a row dict, with their weights."""
    if not _is_row_dict(rows):
        raise InvalidRow("there must be a dict from 1 to 40 rows of one length to numbers above 0")
    check_within(states, 1, MAX_THINGS)
    _check_states(list(rows), states)
    return Lots({_lot_of(row, states): rows[row] for row in rows})


def lot_of_row(row, states):
    """The lot of a row."""
    if not _is_row(row):
        raise InvalidRow("there must be a tuple of one to five integers from 0 to 7")
    check_within(states, 1, MAX_THINGS)
    _check_states([row], states)
    return _lot_of(row, states)


def row_of_lot(lot, states):
    """The row whose lot this is."""
    if not is_lot(lot):
        raise InvalidLots("there must be an ascending tuple of one to five things")
    if not is_row_lot(states, lot):
        raise InvalidRow("this is the lot of no row")
    return tuple([thing - at * states for at, thing in enumerate(lot)])


def is_row_lot(states, value):
    """Whether the value is the lot of a row."""
    check_within(states, 1, MAX_THINGS)
    if not is_lot(value) or states * len(value) > MAX_THINGS:
        return False
    return all([thing // states == at for at, thing in enumerate(value)])


def joined(one, other):
    """The lots with all things of a lot of the first ones, and of a lot of the others with other names."""
    check_lots(one)
    check_lots(other)
    if one.size + other.size > MAX_SIZE:
        raise TooMany(MAX_SIZE)
    further = one.things[-1] + 1
    if further + other.things[-1] >= MAX_THINGS:
        raise TooMany(MAX_THINGS)
    if len(one) * len(other) > MAX_LOTS:
        raise TooMany(MAX_LOTS)
    weights = one.weights
    others = other.weights
    return Lots({
        lot + tuple([further + thing for thing in added_lot]): multiplied(weights[lot], others[added_lot])
        for lot in weights for added_lot in others
    })


def level_lots(lots, size):
    """The level: all pins of this size as lots, with their weights."""
    check_lots(lots)
    check_within(size, 1, lots.size)
    pins = lots.pins(size)
    if len(pins) > MAX_LOTS:
        raise TooMany(MAX_LOTS)
    return Lots({pin: lots.weight_of(pin) for pin in pins})


def even_weights(lots):
    """The lots with the weights 1."""
    check_lots(lots)
    return Lots.even(lots.lots)


def is_even(lots):
    """Whether all weights are equal."""
    check_lots(lots)
    # The multiples of the unit have no common divisor, so equal ones are 1.
    return all([lots.multiple_of(lot) == 1 for lot in lots.lots])


def restricted(lots, some):
    """The lots in `some` alone, with their weights."""
    check_lots(lots)
    if not isinstance(some, tuple) or len(some) == 0 or not all([lot in lots for lot in some]):
        raise InvalidOperation("there must be a tuple of one or more of the lots")
    if len(set(some)) != len(some):
        raise InvalidOperation("the lots must be different")
    return Lots({lot: lots.weight_of(lot) for lot in some})


def renamed(lots, names):
    """The lots with other things in the place of all things."""
    check_lots(lots)
    if not _are_names(lots, names):
        raise InvalidOperation("there must be a dict from just the things of the lots to different things")
    weights = lots.weights
    return Lots({together((), tuple([names[thing] for thing in lot])): weights[lot] for lot in weights})


def _is_row(value):
    """Whether the value is a tuple of one to five integers from 0 to 7."""
    if not isinstance(value, tuple) or not 1 <= len(value) <= MAX_SIZE:
        return False
    return all([is_within(state, 0, MAX_THINGS - 1) for state in value])


def _is_row_dict(value):
    """Whether the value is a dict from 1 to 40 rows of one length to numbers above 0."""
    if not isinstance(value, dict) or not 1 <= len(value) <= MAX_LOTS:
        return False
    if not all([_is_row(row) and is_above_0(value[row]) for row in value]):
        return False
    return len({len(row) for row in value}) == 1


def _check_states(rows, states):
    """Refuses rows of one length with too great states, or with too many things."""
    if not all([state < states for row in rows for state in row]):
        raise InvalidRow("each state must be below the number of states")
    if states * len(rows[0]) > MAX_THINGS:
        raise TooMany(MAX_THINGS)


def _lot_of(row, states):
    return tuple([states * at + state for at, state in enumerate(row)])


def _are_names(lots, value):
    """Whether the value is a dict from just the things of the lots to different things."""
    if not isinstance(value, dict) or not all([is_thing(thing) for thing in value]):
        return False
    if tuple(sorted(value)) != lots.things:
        return False
    named = [value[thing] for thing in sorted(value)]
    return all([is_thing(thing) for thing in named]) and len(set(named)) == len(named)
