"""Totals of fields: by all rows, by taking places out, by chains of shares, and by trees of walks."""

from pinnedgaps.base.numbers import added, divided, fraction, less, multiplied, product_of
from pinnedgaps.errors import InvalidNumber, InvalidOperation, InvalidRow
from pinnedgaps.twostate.fields import Field, check_field, check_place, check_row, is_state, row_weight, with_pin
from pinnedgaps.wood.trees import plain_order, share_by_walks

MAX_PAIRED = 6


def total(field):
    """The sum of the weights of all rows, a fraction."""
    check_field(field)
    return multiplied((field.multiple_with({}), 1), field.unit)


def shares_chain(field, row):
    """For each place the share of its state in the row, all places before it being pinned to theirs."""
    _check_possible_row(field, row)
    pins = {}
    sums = [field.multiple_with(pins)]
    for place, state in enumerate(row):
        pins = with_pin(pins, place, state)
        sums.append(field.multiple_with(pins))
    return tuple([fraction(behind, ahead) for ahead, behind in zip(sums, sums[1:])])


def row_share(field, row):
    """The weight of the row, divided by the total."""
    _check_possible_row(field, row)
    return fraction(field.multiple_of(row), field.multiple_with({}))


def left_field(field, place, state):
    """The field of the other places that is left if a place is pinned to a state."""
    check_field(field)
    check_place(field, place)
    if not is_state(state):
        raise InvalidNumber(state)
    if field.size == 1:
        raise InvalidOperation("no place would be left")
    # Beside states 0 each state is possible whose own weight is above 0.
    if field.places[place][state] == (0, 1):
        raise InvalidOperation("the place never has this state")
    return _left_field(field, place, state)


def total_by_places(field):
    """The total, by taking out the first place again and again."""
    check_field(field)
    weights = field.places[0]
    if field.size == 1:
        return added(weights[0], weights[1])
    left = [total_by_places(_left_field(field, 0, state)) for state in (0, 1)]
    return added(multiplied(weights[0], left[0]), multiplied(weights[1], left[1]))


def total_by_shares(field, row):
    """The total, as the weight of a row, divided by the product of its chain."""
    return divided(row_weight(field, row), product_of(shares_chain(field, row)))


def total_by_trees(field, row):
    """The same with each share told by the tree of walks in the field that is left."""
    _check_possible_row(field, row)
    shares = []
    left = field
    for state in row:
        ahead = share_by_walks(left, 0, plain_order(left), {})
        shares.append(ahead if state == 1 else less(1, ahead))
        if left.size > 1:
            left = _left_field(left, 0, state)
    return divided(row_weight(field, row), product_of(shares))


def free_total(size, ties, weight):
    """The sum, over all free lots, of the power of the weight whose exponent is the number of their places."""
    return total(Field.free(size, ties, weight))


def free_number(size, ties):
    """How many free lots there are."""
    return len(Field.free(size, ties, 1).rows)


def free_numbers(size, ties):
    """The tuple that has at k how many free lots have k places, up to the greatest such k."""
    counts = [sum(row) for row in Field.free(size, ties, 1).rows]
    return tuple([counts.count(many) for many in range(max(counts) + 1)])


def pairing_field(size, ties):
    """The field whose places are the ties, two of them being tied if they share a place."""
    if not 1 <= len(Field.free(size, ties, 1)) <= MAX_PAIRED:
        raise InvalidOperation("there must be 1 to 6 ties")
    pairs = [(low, high) for high in range(len(ties)) for low in range(high)]
    met = [(low, high) for low, high in pairs if ties[low][0] in ties[high] or ties[low][1] in ties[high]]
    return Field.free(len(ties), tuple(sorted(met)), 1)


def pairing_number(size, ties):
    """How many lots of ties there are no two of which share a place."""
    return len(pairing_field(size, ties).rows)


def _check_possible_row(field, row):
    """Refuses what is no field, and what is no row of a weight above 0."""
    check_row(field, row)
    if field.multiple_of(row) == 0:
        raise InvalidRow("the row must have a weight above 0")


def _left_field(field, place, state):
    """The field that is left; it is told also for a state that never comes."""
    others = [other for other in range(field.size) if other != place]
    places = tuple([_left_weights(field, place, state, other) for other in others])
    ties = {
        (others.index(low), others.index(high)): weights
        for (low, high), weights in field.ties.items() if place not in (low, high)
    }
    return Field(places, ties)


def _left_weights(field, place, state, other):
    """The weights of another place, multiplied by those of its tie to the pinned place, if there is one."""
    weights = field.places[other]
    if other not in field.neighbours(place):
        return weights
    factors = field.weights_at(place, other)[state]
    return (multiplied(weights[0], factors[0]), multiplied(weights[1], factors[1]))
