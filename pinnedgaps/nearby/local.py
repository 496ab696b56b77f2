"""Local walks: at a pin, from thing to thing of its link, by the weights of pairs."""

from pinnedgaps.bags.lots import are_things, check_lots, check_pin, together
from pinnedgaps.base.numbers import fraction, multiplied
from pinnedgaps.errors import InvalidOperation


def link_things(lots, pin):
    """The ascending tuple of the things of the link."""
    check_place(lots, pin)
    return things_left(lots, pin)


def pair_weights(lots, pin):
    """The dict from all pairs (x, y) of things of the link with x < y and a pair weight above 0 to these weights."""
    check_place(lots, pin)
    things = things_left(lots, pin)
    pairs = [(low, high) for low in things for high in things if low < high]
    weights = [(pair, lots.multiple_of(together(pin, pair))) for pair in pairs]
    return {pair: multiplied((many, 1), lots.unit) for pair, many in weights if many > 0}


def masses(lots, pin):
    """The dict from the things of the link to their masses."""
    check_place(lots, pin)
    rows = pair_rows(lots, pin)
    return {thing: multiplied((sum(row), 1), lots.unit) for thing, row in zip(things_left(lots, pin), rows)}


def local_walk(lots, pin):
    """The rows of the chances of going from thing to thing of the link."""
    check_place(lots, pin)
    return tuple([tuple([fraction(many, sum(row)) for many in row]) for row in pair_rows(lots, pin)])


def walk_shares(lots, pin):
    """The tuple of the masses, divided by their sum."""
    check_place(lots, pin)
    sums = [sum(row) for row in pair_rows(lots, pin)]
    return tuple([fraction(mass, sum(sums)) for mass in sums])


def hangs_together(lots, pin):
    """Whether the local walk leads from each thing of the link to each other one."""
    return len(pieces(lots, pin)) == 1


def pieces(lots, pin):
    """The tuple of all pieces of the things of the link, by their least things."""
    check_place(lots, pin)
    things = things_left(lots, pin)
    found = pieces_of_rows(pair_rows(lots, pin))
    return tuple([tuple([things[place] for place in piece]) for piece in found])


def parting(lots, pin):
    """Any parting, None if there is none."""
    found = pieces(lots, pin)
    return None if len(found) == 1 else found[0]


def is_parting(lots, pin, value):
    """Whether the value is a parting."""
    check_place(lots, pin)
    if not are_things(value) or len(value) == 0:
        return False
    things = things_left(lots, pin)
    others = [thing for thing in things if thing not in value]
    if len(others) == 0 or len(others) + len(value) != len(things):
        return False
    return all([lots.multiple_of(together(pin, (thing, other))) == 0 for thing in value for other in others])


def check_near(lots, pin):
    """Refuses what is no pin of weighted lots."""
    check_lots(lots)
    check_pin(lots, pin)


def check_room(lots, pin):
    """Refuses a pin that leaves fewer than two things of a lot; to be called behind all other checks."""
    if len(pin) > lots.size - 2:
        raise InvalidOperation("the pin leaves fewer than two things of a lot")


def check_place(lots, pin):
    """Refuses what is no pin of weighted lots with a local walk."""
    check_near(lots, pin)
    check_room(lots, pin)


def things_left(lots, pin):
    """The ascending tuple of the things of the link; a pin that is a lot leaves none."""
    if len(pin) == lots.size:
        return ()
    others = [thing for thing in lots.things if thing not in pin]
    return tuple([thing for thing in others if lots.multiple_of(together(pin, (thing,))) > 0])


def pair_rows(lots, pin):
    """The rows of the pair weights of all things of the link, as multiples of the unit."""
    things = things_left(lots, pin)
    return [
        [0 if thing == other else lots.multiple_of(together(pin, (thing, other))) for other in things]
        for thing in things
    ]


def pieces_of_rows(rows):
    """The places of square rows in pieces, ascending lists, that hang together by other entries than 0."""
    found = []
    left = list(range(len(rows)))
    while left:
        piece = _reached(rows, left[0])
        found.append(piece)
        left = [place for place in left if place not in piece]
    return found


def _reached(rows, start):
    """The ascending list of all places to which entries other than 0 lead from one place."""
    reached = {start: True}
    waiting = [start]
    while waiting:
        row = rows[waiting.pop()]
        fresh = [place for place, entry in enumerate(row) if entry != 0 and place not in reached]
        for found in fresh:
            reached[found] = True
        waiting = waiting + fresh
    return sorted(reached)
