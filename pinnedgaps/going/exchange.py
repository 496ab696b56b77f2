"""Exchanges of things between lots; which lots there are counts here, and not their weights."""

from pinnedgaps.bags.lots import check_lots, is_pin, is_thing, together, without
from pinnedgaps.bags.rows import even_weights
from pinnedgaps.base.numbers import added, compared, is_row
from pinnedgaps.errors import InvalidOperation
from pinnedgaps.nearby.bounds import is_bound

# The prices of all things, whether some lot has them or not.
_MANY_THINGS = 8


def lets_exchanges(lots):
    """Whether there is an exchange for any two lots and each thing of the first one alone."""
    return exchange_fault(lots) is None


def exchanges(lots, one, other, thing):
    """The ascending tuple of all things of the other lot that the first one can take for a thing of its own."""
    _check_both(lots, one, other)
    if not is_thing(thing) or thing not in without(one, other):
        raise InvalidOperation("there must be a thing of the first lot that is not in the second one")
    return _exchanges(lots, one, other, thing)


def exchange_fault(lots):
    """Any triple of two lots and of a thing of the first one alone without an exchange, None if there is none."""
    check_lots(lots)
    names = lots.lots
    for one in names:
        for other in names:
            for thing in without(one, other):
                if len(_exchanges(lots, one, other, thing)) == 0:
                    return (one, other, thing)
    return None


def is_exchange_fault(lots, value):
    """Whether the value is a triple of two lots and of a thing of the first one alone without an exchange."""
    check_lots(lots)
    if not isinstance(value, tuple) or len(value) != 3:
        return False
    one, other, thing = value
    if one not in lots or other not in lots or not is_thing(thing):
        return False
    return thing in without(one, other) and len(_exchanges(lots, one, other, thing)) == 0


def exchange_path(lots, one, other):
    """Any path from a lot to a lot, None if there is none."""
    _check_both(lots, one, other)
    # Each lot that is reached keeps the way to it; each step of a path comes nearer to the last lot.
    ways = {one: (one,)}
    for _ in without(one, other):
        ways = _longer_ways(lots, ways, other)
    return ways.get(other, None)


def is_exchange_path(lots, one, other, value):
    """Whether the value is a path from a lot to a lot."""
    _check_both(lots, one, other)
    if not isinstance(value, tuple) or len(value) != len(without(one, other)) + 1:
        return False
    if not all([lot in lots for lot in value]):
        return False
    if value[0] != one or value[-1] != other:
        return False
    return all([len(without(ahead, behind)) == 1 for ahead, behind in zip(value, value[1:])])


def double_exchanges(lots, one, other):
    """The ascending tuple of all pairs of things that both lots can take for one another."""
    _check_both(lots, one, other)
    return tuple([
        (thing, taken)
        for thing in without(one, other) for taken in without(other, one)
        if _swapped(one, thing, taken) in lots and _swapped(other, taken, thing) in lots
    ])


def pinned_fault(lots):
    """Any pin whose local walk, all weights being 1, does not have 0 as a bound, None if there is none."""
    check_lots(lots)
    even = even_weights(lots)
    for size in range(lots.size - 1):
        for pin in lots.pins(size):
            if not is_bound(even, pin, 0):
                return pin
    return None


def is_pinned_fault(lots, value):
    """Whether the value is a pin whose local walk, all weights being 1, does not have 0 as a bound."""
    if not is_pin(lots, value) or len(value) > lots.size - 2:
        return False
    # A local walk that does not hang together has no bound below 1 at all.
    return not is_bound(even_weights(lots), value, 0)


def cheapest_lots(lots, prices):
    """The ascending tuple of all lots with the least sum of the prices of their things."""
    check_lots(lots)
    _check_prices(prices)
    names = lots.lots
    sums = [_price(lot, prices) for lot in names]
    least = sums[0]
    for price in sums:
        if compared(price, least) < 0:
            least = price
    return tuple([lot for lot, price_of_lot in zip(names, sums) if price_of_lot == least])


def is_settled(lots, one, prices):
    """Whether no lot that comes out of the lot by one thing left out and another one taken is cheaper."""
    check_lots(lots)
    _check_lot(lots, one)
    _check_prices(prices)
    price = _price(one, prices)
    beside = [lot for lot in lots.lots if len(without(one, lot)) == 1]
    return all([compared(_price(lot, prices), price) >= 0 for lot in beside])


def _check_both(lots, one, other):
    check_lots(lots)
    _check_lot(lots, one)
    _check_lot(lots, other)


def _check_lot(lots, lot):
    if lot not in lots:
        raise InvalidOperation("there must be one of the lots")


def _check_prices(prices):
    if not is_row(prices, _MANY_THINGS):
        raise InvalidOperation("there must be a tuple of eight numbers")


def _swapped(lot, thing, taken):
    """The lot without one thing and with another one."""
    return together(without(lot, (thing,)), (taken,))


def _exchanges(lots, one, other, thing):
    return tuple([taken for taken in without(other, one) if _swapped(one, thing, taken) in lots])


def _longer_ways(lots, ways, other):
    """The ways, each longer by one step towards a lot, one for each lot that is reached."""
    longer = {}
    for lot in ways:
        for thing in without(lot, other):
            for taken in _exchanges(lots, lot, other, thing):
                reached = _swapped(lot, thing, taken)
                longer[reached] = ways[lot] + (reached,)
    return longer


def _price(lot, prices):
    price = (0, 1)
    for thing in lot:
        price = added(price, prices[thing])
    return price
