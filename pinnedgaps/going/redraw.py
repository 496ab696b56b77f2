"""The redraw walk: a lot leaves out one thing, and draws one anew by the weights."""

from pinnedgaps.bags.lots import check_lots, has_all, together, without
from pinnedgaps.base.numbers import added, check_within, divided, fraction, is_row, multiplied, power_of, whole_row
from pinnedgaps.errors import InvalidOperation, InvalidPin, TooMany
from pinnedgaps.nearby.local import pieces_of_rows

MOST_PINS = 40
_MOST_STEPS = 12


def leave_table(lots):
    """The chances of going from each lot to each pin of one thing less."""
    check_lots(lots)
    pins = lots.pins(lots.size - 1)
    return tuple([
        tuple([(1, lots.size) if has_all(lot, pin) else (0, 1) for pin in pins])
        for lot in lots.lots
    ])


def draw_table(lots):
    """The chances of going from each pin of one thing less than the lots to each lot."""
    check_lots(lots)
    return tuple([
        tuple([
            fraction(lots.multiple_of(lot), lots.multiple_of(pin)) if has_all(lot, pin) else (0, 1)
            for lot in lots.lots
        ])
        for pin in lots.pins(lots.size - 1)
    ])


def redraw_walk(lots):
    """The chances of the redraw walk of going from each lot to each lot."""
    check_lots(lots)
    return tuple([tuple([_lot_chance(lots, lot, other) for other in lots.lots]) for lot in lots.lots])


def grow_walk(lots):
    """The chances of the grow walk of going from each pin of one thing less than the lots to each such pin."""
    check_lots(lots)
    pins = _few_pins(lots)
    return tuple([tuple([_pin_chance(lots, pin, other) for other in pins]) for pin in pins])


def moved(lots, chances):
    """The chances behind one step of the redraw walk."""
    check_lots(lots)
    if not is_row(chances, len(lots)):
        raise InvalidOperation("there must be a tuple of one number for each lot")
    rows = redraw_walk(lots)
    return tuple([_mean(chances, column) for column in zip(*rows)])


def walk_trace(lots, steps):
    """The sum of the chances of being back after so many steps of the redraw walk, over all lots."""
    check_lots(lots)
    check_within(steps, 0, _MOST_STEPS)
    if steps == 0:
        return (len(lots), 1)
    return _trace(lots, steps)


def grow_trace(lots, steps):
    """The sum of the chances of being back after so many steps of the grow walk, over all pins."""
    check_lots(lots)
    check_within(steps, 0, _MOST_STEPS)
    pins = _few_pins(lots)
    if steps == 0:
        return (len(pins), 1)
    return _trace(lots, steps)


def walk_parts(lots):
    """The ascending tuple of all parts, ascending tuples of lots."""
    check_lots(lots)
    names = lots.lots
    rows = [[1 if len(without(lot, other)) <= 1 else 0 for other in names] for lot in names]
    return tuple([tuple([names[place] for place in piece]) for piece in pieces_of_rows(rows)])


def holding_chance(lots, lot):
    """The chance of staying at a lot in one step of the redraw walk."""
    check_lots(lots)
    if lot not in lots:
        raise InvalidPin("there must be one of the lots")
    return _lot_chance(lots, lot, lot)


def pins_of(lot):
    """The list of the pins of a lot with one thing less."""
    return [without(lot, (thing,)) for thing in lot]


def lot_shares(lots):
    """The shares of all lots, ascending: the redraw walk keeps them."""
    return [lots.share_of(lot) for lot in lots.lots]


def shorter_walk(lots):
    """The pair of the table of a walk and of the shares that it keeps: of the grow walk if it has fewer places.

    But for noughts, both walks have the same values.
    """
    pins = lots.pins(lots.size - 1)
    if len(pins) < len(lots):
        return (grow_walk(lots), [divided(lots.share_of(pin), lots.size) for pin in pins])
    return (redraw_walk(lots), lot_shares(lots))


def _few_pins(lots):
    """The pins of one thing less than the lots, if there are not too many for a table."""
    pins = lots.pins(lots.size - 1)
    if len(pins) > MOST_PINS:
        raise TooMany(MOST_PINS)
    return pins


def _lot_chance(lots, lot, other):
    """The chance of the redraw walk of going from a lot to another one, or of staying."""
    chance = (0, 1)
    for pin in pins_of(lot):
        if has_all(other, pin):
            chance = added(chance, fraction(lots.multiple_of(other), lots.size * lots.multiple_of(pin)))
    return chance


def _pin_chance(lots, pin, other):
    """The chance of the grow walk of going from a pin to another one, or of staying."""
    both = together(pin, without(other, pin))
    if len(both) > lots.size:
        return (0, 1)
    return fraction(lots.multiple_of(both), lots.size * lots.multiple_of(pin))


def _mean(chances, column):
    """The sum of the products of the numbers of both."""
    found = (0, 1)
    for chance, entry in zip(chances, column):
        found = added(found, multiplied(chance, entry))
    return found


def _trace(lots, steps):
    """The sum for so many steps, at least one: it is the same for both walks."""
    rows = shorter_walk(lots)[0]
    entries, bottom = whole_row([entry for row in rows for entry in row])
    whole = [entries[at * len(rows):(at + 1) * len(rows)] for at in range(len(rows))]
    half = _raised_rows(whole, steps // 2)
    columns = _columns(_raised_rows(whole, steps - steps // 2))
    back = sum([x * y for row, column in zip(half, columns) for x, y in zip(row, column)])
    return multiplied((back, 1), power_of((1, bottom), steps))


def _columns(rows):
    return [[row[at] for row in rows] for at in range(len(rows))]


def _products(one, other):
    """The product of two square tables of integers."""
    columns = _columns(other)
    return [[sum([x * y for x, y in zip(row, column)]) for column in columns] for row in one]


def _raised_rows(rows, many):
    """The power of a square table of integers."""
    if many == 0:
        return [[1 if at == place else 0 for place in range(len(rows))] for at in range(len(rows))]
    half = _raised_rows(rows, many // 2)
    square = _products(half, half)
    return square if (many & 1) == 0 else _products(square, rows)
