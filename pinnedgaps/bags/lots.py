"""Weighted lots, their pins and their links.

All weights are kept as integer multiples of one number, the unit. So the
weights of pins are sums of integers, and whoever needs weights only up to a
number reckons with integers alone.
"""

from math import comb

from pinnedgaps.base.numbers import (
    check_within, common_divisor, divided, fraction, is_above_0, is_within, multiplied, pair_of, whole_row)
from pinnedgaps.errors import InvalidLots, InvalidNumber, InvalidOperation, InvalidPin, TooMany

MAX_THING = 7
MAX_SIZE = 5
MAX_LOTS = 40


class Lots:
    """Weighted lots of one size. They never change."""

    def __init__(self, weights):
        if not is_lots_data(weights):
            raise InvalidLots("there must be a dict from 1 to 40 lots of one size to numbers above 0")
        lots = sorted(weights)
        whole, scale = whole_row([weights[lot] for lot in lots])
        common = common_divisor(whole)
        self._weights = {lot: pair_of(weights[lot]) for lot in lots}
        self._size = len(lots[0])
        self._unit = fraction(common, scale)
        self._multiples = _pin_sums(lots, [many // common for many in whole])

    @classmethod
    def all_of(cls, things, size):
        """All lots of this size of the things below `things`, each with the weight 1."""
        check_within(things, 1, MAX_THING + 1)
        check_within(size, 1, MAX_SIZE)
        if things < size:
            raise InvalidOperation("a lot has no more things than there are")
        if comb(things, size) > MAX_LOTS:
            raise TooMany(MAX_LOTS)
        return cls({lot: 1 for lot in parts_of(tuple(range(things))) if len(lot) == size})

    @classmethod
    def even(cls, some):
        """The lots of a tuple, each with the weight 1."""
        if not _are_different_lots(some):
            raise InvalidLots("there must be a tuple of 1 to 40 different lots of one size")
        return cls({lot: 1 for lot in some})

    @property
    def weights(self):
        """The dict from all lots, ascending, to their weights."""
        return {lot: self._weights[lot] for lot in self._weights}

    @property
    def lots(self):
        """The ascending tuple of all lots."""
        return tuple(self._weights)

    @property
    def size(self):
        """How many things each lot has."""
        return self._size

    @property
    def things(self):
        """The ascending tuple of all things that some lot has."""
        return tuple([pin[0] for pin in self._multiples[1]])

    @property
    def total(self):
        """The sum of all weights."""
        return multiplied((self._multiples[0][()], 1), self._unit)

    @property
    def unit(self):
        """The greatest number of which all weights are integer multiples."""
        return self._unit

    def multiple_of(self, things):
        """How many units the weight of a pin is; 0 if the ascending tuple of at most d things is no pin."""
        return self._multiples[len(things)].get(things, 0)

    def pins(self, size):
        """The ascending tuple of all pins of a size."""
        check_within(size, 0, self._size)
        return tuple(self._multiples[size])

    def weight_of(self, pin):
        """The weight of a pin, a fraction."""
        check_pin(self, pin)
        return multiplied((self.multiple_of(pin), 1), self._unit)

    def share_of(self, pin):
        """The share of a pin, a fraction."""
        check_pin(self, pin)
        return fraction(self.multiple_of(pin), self.multiple_of(()))

    def link(self, pin):
        """The link of a pin, weighted lots."""
        check_pin(self, pin)
        if len(pin) == self._size:
            raise InvalidOperation("no thing is left of a lot without all of its things")
        above = [lot for lot in self._weights if has_all(lot, pin)]
        return Lots({without(lot, pin): self._weights[lot] for lot in above})

    def times(self, factors):
        """The lots with each weight multiplied by the factors of all things of the lot."""
        if not _are_factors(factors):
            raise InvalidOperation("there must be a dict from things to numbers above 0")
        return Lots({lot: _multiplied_by(self._weights[lot], lot, factors) for lot in self._weights})

    def __eq__(self, other):
        return isinstance(other, Lots) and self._weights == other._weights

    def __len__(self):
        return len(self._weights)

    def __contains__(self, value):
        return is_lot(value) and value in self._weights

    def __str__(self):
        return f"{len(self._weights)} lots of {self._size} of {len(self._multiples[1])} things"


def is_lots_data(value):
    """Whether the value is a dict from 1 to 40 lots of one size to numbers above 0."""
    if not isinstance(value, dict) or not _are_different_lots(tuple(value)):
        return False
    return all([is_above_0(weight) for weight in value.values()])


def is_pin(lots, value):
    """Whether the value is a pin of the lots."""
    check_lots(lots)
    return are_things(value) and len(value) <= lots.size and lots.multiple_of(value) > 0


def are_scaled(one, other):
    """Whether the first lots are scaled ones of the others."""
    check_lots(one)
    check_lots(other)
    if one.lots != other.lots:
        return False
    # The multiples of the unit have no common divisor, so they tell all weights but for one number.
    return all([one.multiple_of(lot) == other.multiple_of(lot) for lot in one.lots])


def scaled_to(lots, number):
    """The lots with all weights multiplied by one number, so that `number` is their total."""
    check_lots(lots)
    if not is_above_0(number):
        raise InvalidNumber(number)
    factor = divided(number, lots.total)
    weights = lots.weights
    return Lots({lot: multiplied(weights[lot], factor) for lot in weights})


def check_lots(lots):
    """Refuses what is no object of `Lots`."""
    if not isinstance(lots, Lots):
        raise InvalidLots("there must be weighted lots")


def check_pin(lots, pin):
    """Refuses what is no pin of the lots."""
    if not is_pin(lots, pin):
        raise InvalidPin("there must be a pin of the lots")


def is_thing(value):
    """Whether the value is an integer from 0 to 7."""
    return is_within(value, 0, MAX_THING)


def are_things(value):
    """Whether the value is an ascending tuple of things, perhaps of none."""
    if not isinstance(value, tuple) or not all([is_thing(thing) for thing in value]):
        return False
    return all([low < high for low, high in zip(value, value[1:])])


def is_lot(value):
    """Whether the value is an ascending tuple of one to five things."""
    return are_things(value) and 1 <= len(value) <= MAX_SIZE


def has_all(lot, pin):
    """Whether the lot has all things of the pin."""
    return all([thing in lot for thing in pin])


def without(lot, pin):
    """The tuple of the things of the lot that are not in the pin."""
    return tuple([thing for thing in lot if thing not in pin])


def together(pin, things):
    """The ascending tuple of the things of the pin and of other things."""
    return tuple(sorted(pin + things))


def parts_of(things):
    """The list of all ascending tuples of some of the things of an ascending tuple, () among them."""
    parts = [()]
    for thing in things:
        parts = parts + [part + (thing,) for part in parts]
    return parts


def _are_different_lots(value):
    """Whether the value is a tuple of 1 to 40 different lots of one size."""
    if not isinstance(value, tuple) or not 1 <= len(value) <= MAX_LOTS:
        return False
    if not all([is_lot(lot) for lot in value]):
        return False
    return len(set(value)) == len(value) and all([len(lot) == len(value[0]) for lot in value])


def _are_factors(value):
    """Whether the value is a dict from things to numbers above 0."""
    if not isinstance(value, dict) or not all([is_thing(thing) for thing in value]):
        return False
    return all([is_above_0(factor) for factor in value.values()])


def _multiplied_by(weight, lot, factors):
    for thing in lot:
        weight = multiplied(weight, factors.get(thing, 1))
    return weight


def _pin_sums(lots, multiples):
    """For each size the dict from all pins of this size, ascending, to the sums of the multiples of their lots."""
    sums = {}
    for lot, many in zip(lots, multiples):
        for part in parts_of(lot):
            sums[part] = sums.get(part, 0) + many
    pins = sorted(sums)
    return [{pin: sums[pin] for pin in pins if len(pin) == size} for size in range(len(lots[0]) + 1)]
