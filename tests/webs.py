"""Fields that several tests use, and plain reckoning over all of their rows."""

from fractions import Fraction
from functools import cached_property
from itertools import combinations, permutations, product
from math import prod

from pinnedgaps.twostate.fields import Field
from tests.bags import PAIRS, mixed
from tests.exact import exact
from tests.samples import LONG, LONG_BOTTOM, ODD_VALUES, SIXTY


def all_ties(size):
    return tuple(combinations(range(size), 2))


def ring_ties(size):
    return tuple(sorted([(at, at + 1) for at in range(size - 1)] + [(0, size - 1)]))


def mixed_field(size, ties, start=0, zeros=(), fixed=()):
    """A field with weights without a pattern; ties in `zeros` never have 1 at both places, places in `fixed` never."""
    at = iter(range(7 * start, 7 * start + 1000))
    places = tuple((mixed(next(at), 5), 0 if place in fixed else (mixed(next(at), 4), 1)) for place in range(size))
    return Field(places, {tie: ((mixed(next(at), 4), mixed(next(at), 5)),
                                (mixed(next(at), 3), 0 if tie in zeros else mixed(next(at), 6))) for tie in ties})


RING = Field.free(4, ((0, 1), (0, 3), (1, 2), (2, 3)), 1)
MIXED = Field(((1, 2), (1, 1), (2, 1)),
              {(0, 1): ((2, 1), (1, 3)), (0, 2): ((1, 1), (2, 1)), (1, 2): ((1, 2), (3, 1))})
LINE = Field(((1, 1), (1, 2), (1, 1)), {(0, 1): ((1, 2), (1, 1)), (1, 2): ((1, 1), (1, 3))})
HALF = Field.free(4, ((0, 1), (0, 3), (1, 2), (2, 3)), (1, 2))
KIND = Field(((1, 1), (1, 1), (2, 1)), {(0, 1): ((2, 1), (1, 1)), (1, 2): ((1, 1), (1, 3))})
LONE = Field((((1, 2), 3),), {})
STILL = Field(((2, 0),), {})
COUPLE = Field(((1, 2), (3, (1, 2))), {(0, 1): ((1, (2, 3)), (4, 5))})
STIFF = mixed_field(3, ((0, 1), (1, 2)), 1, fixed=(0, 2))
SLACK = Field(((1, 0), (2, 0), (3, 0)), {(0, 1): ((1, 2), (3, 4))})
HARD = Field.free(3, all_ties(3), (5, 2))
FOUR = mixed_field(4, all_ties(4), 2)
PARTS = mixed_field(5, ((0, 3), (1, 2), (1, 4), (2, 4)), 3, zeros=((1, 4),))
FIVE = mixed_field(5, ring_ties(5), 4, zeros=((0, 1), (2, 3)), fixed=(3,))
BRANCH = mixed_field(6, ((0, 3), (1, 3), (2, 5), (3, 5), (4, 5)), 5, zeros=((2, 5),))
STRAIGHT = mixed_field(6, tuple((at, at + 1) for at in range(5)), 6)
WHEEL = mixed_field(6, tuple(sorted(ring_ties(5) + tuple((at, 5) for at in range(5)))), 7, zeros=((0, 5), (1, 2)))
FULL = mixed_field(6, all_ties(6), 8, zeros=((0, 1), (2, 4), (3, 5)), fixed=(2,))
APART = mixed_field(6, (), 9)
FREE_RING = Field.free(6, ring_ties(6), (3, 7))
FREE_FULL = Field.free(6, all_ties(6), 2)
FREE_NONE = Field.free(5, ((0, 4), (1, 2)), 0)
LONGS = Field((((LONG, LONG_BOTTOM), SIXTY), (1, (LONG_BOTTOM, LONG)), (3, 0)),
              {(0, 1): ((1, (1, LONG)), ((LONG, 2), 7)), (1, 2): ((SIXTY, 1), (1, (1, SIXTY)))})
SIXTIES = Field(((SIXTY, SIXTY - 2), (SIXTY - 10 ** 30, 1), (7, SIXTY)),
                {(0, 1): ((SIXTY, 10 ** 59), (3, SIXTY)), (0, 2): ((1, 10 ** 58 + 1), (1, 0)),
                 (1, 2): ((2, 3), (5, SIXTY - 6))})

TREES = (LINE, KIND, LONE, STILL, COUPLE, STIFF, BRANCH, STRAIGHT)
RINGS = (RING, MIXED, HALF, HARD, FOUR, FIVE, WHEEL, FREE_RING, SIXTIES)
LOOSE = (SLACK, PARTS, APART, FREE_NONE)
LARGE = (FULL, FREE_FULL)
SMALL = tuple(field for field in TREES + RINGS + LOOSE + (LONGS,) if field.size <= 4)
ALL = TREES + RINGS + LOOSE + LARGE + (LONGS,)

# Nothing of this is an object of `Field`.
NO_FIELDS = ODD_VALUES + (Field, PAIRS, RING.places, RING.ties, (RING.places, RING.ties), [RING], (RING,), {0: RING})

# Nothing of this is a place of any field.
NO_PLACES = ODD_VALUES + (-1, 6, 7, (0, 1), (1, 1), RING, "0", PAIRS, [0], {0: 0})

# Nothing of this are pins of RING.
NO_PINS = tuple(value for value in ODD_VALUES if value != {}) + (
    {0: 1, 1: 1}, {0: 1, 3: 1}, {0: 2}, {0: -1}, {4: 0}, {-1: 0}, {0: None}, {0: True}, {0: False}, {True: 0},
    {False: 1}, {0: (1, 1)}, {0: [1]}, {"0": 0}, {(0,): 0}, {None: 0}, {0: 0, "a": 1}, {0: 10 ** 60}, {10 ** 60: 0},
    ((0, 1),), [(0, 1)], (0, 1), 0, RING, {0: RING}, {0: "1"}, {0: 1, 1: 0, 2: 0, 3: 1}, {0: {}})

# Nothing of this is a row of states of a field of three places.
NO_ROWS = ODD_VALUES + (
    (0, 1), (0, 1, 0, 1), (0, 1, 2), (0, -1, 1), (0, True, 0), (False, 0, 0), (0, None, 1), (0, (1, 1), 0), [0, 0, 1],
    (0, [1], 0), "001", (0, "0", 1), {0: 0, 1: 0, 2: 0}, 0, RING, (0, 0, RING), (0, 10 ** 60, 1))

NO_STATES = ODD_VALUES + (-1, 2, (0, 1), (1, 1), RING)


class Web:
    """A field, reckoned by the words of the document alone."""

    def __init__(self, field):
        self.size = field.size
        self.places = [[exact(weight) for weight in weights] for weights in field.places]
        self.ties = {tie: [[exact(weight) for weight in line] for line in table] for tie, table in field.ties.items()}
        self.masses = {}

    def weight(self, row):
        own = prod((self.places[at][state] for at, state in enumerate(row)), start=Fraction(1))
        return own * prod((table[row[i]][row[j]] for (i, j), table in self.ties.items()), start=Fraction(1))

    @cached_property
    def rows(self):
        rows = {row: self.weight(row) for row in product((0, 1), repeat=self.size)}
        return {row: weight for row, weight in rows.items() if weight > 0}

    def mass(self, pins):
        key = tuple(pins.get(place, None) for place in range(self.size))
        if key not in self.masses:
            self.masses[key] = sum(weight for row, weight in self.rows.items()
                                   if all(state in (None, own) for own, state in zip(row, key)))
        return self.masses[key]

    def share(self, place, pins, state=1):
        if pins.get(place, state) != state:
            return Fraction(0)
        return Fraction(self.mass({**pins, place: state}), self.mass(pins))

    def is_open(self, place, pins):
        return place not in pins and all(self.mass({**pins, place: state}) > 0 for state in (0, 1))

    def influence(self, i, j, pins):
        if i == j or not self.is_open(i, pins):
            return Fraction(0)
        return self.share(j, {**pins, i: 1}) - self.share(j, {**pins, i: 0})

    def covariance(self, i, j, pins):
        both = 0 if 0 in (pins.get(i, 1), pins.get(j, 1)) else self.mass({**pins, i: 1, j: 1})
        return Fraction(both, self.mass(pins)) - self.share(i, pins) * self.share(j, pins)

    def influence_bound_rows(self, pins, bound):
        """The table of [11.3]."""
        return [[(bound if i == j else -1) * self.covariance(i, j, pins) for j in range(self.size)]
                for i in range(self.size)]

    def pins(self, count):
        """All pins of so many places."""
        return [dict(zip(places, states)) for places in combinations(range(self.size), count)
                for states in product((0, 1), repeat=count) if self.mass(dict(zip(places, states))) > 0]

    def all_pins(self):
        return [pins for count in range(self.size + 1) for pins in self.pins(count)]

    def weights_at(self, i, j):
        """The weights at a tie, at [a][b] that of a at i and b at j."""
        if i < j:
            return self.ties[(i, j)]
        return [list(line) for line in zip(*self.ties[(j, i)])]

    def beside(self, place):
        return [j for j in range(self.size) if (place, j) in self.ties or (j, place) in self.ties]

    def hangs_together(self):
        reached = {0}
        for _ in range(self.size):
            reached |= {j for i in reached for j in self.beside(i)}
        return len(reached) == self.size

    def orders(self):
        """All orders of the field."""
        return product(*(permutations(self.beside(place)) for place in range(self.size)))


WEBS = {id(field): Web(field) for field in ALL}


def web_of(field):
    """The web of a field, one and the same for each of those above, which keeps what it has reckoned."""
    return WEBS.get(id(field), None) or Web(field)


def some_orders(field):
    """Some orders of a field: the plain one, that turned around, and two others."""
    plain = [tuple(web_of(field).beside(place)) for place in range(field.size)]
    return (tuple(plain), tuple(places[::-1] for places in plain), tuple(places[1:] + places[:1] for places in plain),
            tuple(tuple(sorted(places, key=lambda at: mixed(at + 3 * place, 90)))
                  for place, places in enumerate(plain)))


def some_pins(field):
    """Some pins of a field: {}, and others with more and more places."""
    web = web_of(field)
    return [pins for count in range(field.size + 1) for pins in web.pins(count)[:6 * count + 1:3]]
