"""Fields of places with the states 0 and 1, their rows, pins and shares.

All weights of a place, and all of a tie, are also kept as integers without a
common divisor. So the weight of each row is an integer multiple of one number,
the unit, and shares are quotients of sums of integers.
"""

from pinnedgaps.bags.rows import rows_lots
from pinnedgaps.base.numbers import added, check_within, fraction, is_within, less, multiplied
from pinnedgaps.errors import InvalidField, InvalidNumber, InvalidOperation, InvalidPin, InvalidRow, TooMany
from pinnedgaps.twostate.weights import (
    are_tie_weights, are_ties, as_pairs, is_from_0, is_place_pair, neighbours_of, row_multiples, turned, unit_of,
    whole_ratio, whole_tables)

MAX_PLACES = 6
MAX_THINGS = 8


class Field:
    """A field of places with two states. It never changes."""

    def __init__(self, places, ties):
        if not are_place_weights(places) or not are_tie_weights(ties, len(places)):
            raise InvalidField("there must be the weights of 1 to 6 places, and a dict of those of ties")
        self._places = tuple([as_pairs(weights) for weights in places])
        self._ties = {tie: (as_pairs(ties[tie][0]), as_pairs(ties[tie][1])) for tie in sorted(ties)}
        self._neighbours = neighbours_of(len(places), self._ties)
        self._whole_places = [whole_ratio(weights) for weights in self._places]
        self._whole_ties = whole_tables(self._ties)
        self._multiples = row_multiples(self._whole_places, self._whole_ties)
        self._unit = unit_of(self._places, self._ties, self._multiples)

    @classmethod
    def free(cls, size, ties, weight):
        """The field of places with the weights 1 and `weight`, no two with a tie having both the state 1."""
        check_within(size, 1, MAX_PLACES)
        if not are_ties(ties, size):
            raise InvalidField("there must be an ascending tuple of pairs of places")
        if not is_from_0(weight):
            raise InvalidNumber(weight)
        return cls(((1, weight),) * size, {tie: ((1, 1), (1, 0)) for tie in ties})

    @property
    def size(self):
        """The number of places."""
        return len(self._places)

    @property
    def places(self):
        """The tuple of the weights of both states of each place."""
        return self._places

    @property
    def ties(self):
        """The dict from all ties, ascending, to their weights."""
        return {tie: self._ties[tie] for tie in self._ties}

    @property
    def rows(self):
        """The ascending tuple of all rows with a weight above 0."""
        return tuple(self._multiples)

    @property
    def unit(self):
        """A number of which the weights of all rows are integer multiples."""
        return self._unit

    def neighbours(self, place):
        """The ascending tuple of the places with a tie to the place."""
        check_place(self, place)
        return self._neighbours[place]

    def weights_at(self, one, other):
        """The weights at a tie: at [a][b] that of a at the first place and b at the other one."""
        check_place(self, one)
        check_place(self, other)
        if other not in self._neighbours[one]:
            raise InvalidOperation("there is no tie between these places")
        if one < other:
            return self._ties[(one, other)]
        return turned(self._ties[(other, one)])

    def whole_place(self, place):
        """Two integers whose ratio is that of the weights of both states of the place."""
        return self._whole_places[place]

    def whole_tie(self, one, other):
        """Four integers, like `weights_at`, whose ratios are those of the weights at the tie, which must be there."""
        return self._whole_ties[(one, other)]

    def multiple_of(self, row):
        """How many units the weight of a row is."""
        return self._multiples.get(row, 0)

    def multiple_with(self, pins):
        """How many units the sum of the weights of all rows is that have these states; 0 if there are none."""
        return sum([
            many for row, many in self._multiples.items()
            if all([row[place] == pins[place] for place in pins])
        ])

    def __eq__(self, other):
        return isinstance(other, Field) and self._places == other._places and self._ties == other._ties

    def __len__(self):
        return len(self._ties)

    def __str__(self):
        return f"field of {len(self._places)} places, {len(self._ties)} ties"


def is_field_data(value):
    """Whether the value is a pair of the weights of places and of those of ties that tells a field."""
    if not isinstance(value, tuple) or len(value) != 2:
        return False
    places, ties = value
    return are_place_weights(places) and are_tie_weights(ties, len(places))


def is_pins(field, value):
    """Whether the value is a dict from some places to states that some row of a weight above 0 has."""
    check_field(field)
    if not isinstance(value, dict):
        return False
    if not all([is_place(field, place) and is_state(value[place]) for place in value]):
        return False
    return field.multiple_with(value) > 0


def row_weight(field, row):
    """The weight of a row, a fraction."""
    check_row(field, row)
    return multiplied((field.multiple_of(row), 1), field.unit)


def rows_of(field):
    """The dict from all rows with weights above 0, ascending, to these."""
    check_field(field)
    return {row: multiplied((field.multiple_of(row), 1), field.unit) for row in field.rows}


def field_lots(field):
    """The rows as weighted lots."""
    check_field(field)
    if 2 * field.size > MAX_THINGS:
        raise TooMany(MAX_THINGS)
    return rows_lots(rows_of(field), 2)


def share(field, place, pins):
    """The share of the state 1 at the place among the rows with the pins."""
    check_field(field)
    check_place(field, place)
    check_pins(field, pins)
    return share_with(field, place, pins)


def is_tree(field):
    """Whether the ties lead from each place to each other one, and are one fewer than the places."""
    check_field(field)
    return len(field) == field.size - 1 and len(_parents(field, 0)) == field.size


def sums_towards(field, place):
    """The tuple of the pairs of the sums of all places towards one place of a tree."""
    check_field(field)
    check_place(field, place)
    _check_tree(field)
    parents = _parents(field, place)
    found = {}
    for at in reversed(list(parents)):
        behind = [other for other in field.neighbours(at) if other != parents[at]]
        found[at] = tuple([_sum_towards(field, at, state, behind, found) for state in (0, 1)])
    return tuple([found[at] for at in range(field.size)])


def way_influence(field, one, other):
    """The product of the influences of each place of the way in a tree on the next one."""
    check_field(field)
    check_place(field, one)
    check_place(field, other)
    _check_tree(field)
    parents = _parents(field, other)
    found = (1, 1)
    at = one
    while at != other:
        found = multiplied(found, lift_of(field, at, parents[at], {}))
        at = parents[at]
    return found


def check_field(field):
    """Refuses what is no object of `Field`."""
    if not isinstance(field, Field):
        raise InvalidField("there must be a field")


def check_place(field, place):
    """Refuses what is no place of the field."""
    if not is_place(field, place):
        raise InvalidNumber(place)


def check_pins(field, pins):
    """Refuses what is no field, and what are no pins of it."""
    if not is_pins(field, pins):
        raise InvalidPin("there must be a dict from places to states that some row has")


def check_row(field, row):
    """Refuses what is no field, and what is no row of states for it."""
    check_field(field)
    if not is_state_row(field, row):
        raise InvalidRow("there must be a tuple of a state for each place")


def is_place(field, value):
    """Whether the value is a place of the field."""
    return is_within(value, 0, field.size - 1)


def is_state(value):
    """Whether the value is the integer 0 or 1."""
    return is_within(value, 0, 1)


def is_state_row(field, value):
    """Whether the value is a tuple of a state for each place, whatever its weight."""
    if not isinstance(value, tuple) or len(value) != field.size:
        return False
    return all([is_state(state) for state in value])




def are_place_weights(value):
    """Whether the value is a tuple of 1 to 6 pairs of weights of a place."""
    if not isinstance(value, tuple) or not 1 <= len(value) <= MAX_PLACES:
        return False
    return all([is_place_pair(weights) for weights in value])


def with_pin(pins, place, state):
    """The pins, and a place pinned to a state."""
    return {**pins, place: state}


def is_open(field, place, pins):
    """Whether a place has both states in rows with the pins."""
    if place in pins:
        return False
    return all([field.multiple_with(with_pin(pins, place, state)) > 0 for state in (0, 1)])


def share_with(field, place, pins):
    """The share of the state 1, all arguments being right."""
    if place in pins:
        return (pins[place], 1)
    return fraction(field.multiple_with(with_pin(pins, place, 1)), field.multiple_with(pins))


def lift_of(field, one, other, pins):
    """The influence of a place on another one: how much greater its state 1 makes the share there than its state 0."""
    if one == other or not is_open(field, one, pins):
        return (0, 1)
    ahead = share_with(field, other, with_pin(pins, one, 1))
    return less(ahead, share_with(field, other, with_pin(pins, one, 0)))













def _check_tree(field):
    if not is_tree(field):
        raise InvalidOperation("the ties must make a tree")


def _parents(field, root):
    """The dict from all places that ties lead to from the root to the next ones on the way back, nearer ones first."""
    parents = {root: None}
    waiting = [root]
    while waiting:
        at = waiting[0]
        fresh = [other for other in field.neighbours(at) if other not in parents]
        for other in fresh:
            parents[other] = at
        waiting = waiting[1:] + fresh
    return parents


def _sum_towards(field, at, state, behind, found):
    """The sum for a state of a place, `found` having those of all places behind it that have a tie to it."""
    product_of_sums = field.places[at][state]
    for other in behind:
        weights = field.weights_at(at, other)[state]
        both = [multiplied(weights[further], found[other][further]) for further in (0, 1)]
        product_of_sums = multiplied(product_of_sums, added(both[0], both[1]))
    return product_of_sums
