"""Plain reckoning with Python's own fractions, and by no function of the package: what the tests compare with."""

from fractions import Fraction
from functools import cached_property
from itertools import combinations
from math import prod


def exact(number):
    return Fraction(*number) if isinstance(number, tuple) else Fraction(number)


def exact_row(numbers):
    return [exact(number) for number in numbers]


def exact_rows(rows):
    return [exact_row(row) for row in rows]


def as_pair(value):
    return (value.numerator, value.denominator)


def as_pairs(values):
    return tuple(as_pair(value) for value in values)


def no_minus(rows):
    """Whether a symmetric table of fractions has no minus, by taking out one place after the other."""
    rows = [list(row) for row in rows]
    while rows:
        row = rows.pop()
        pivot = row.pop()
        if pivot < 0 or (pivot == 0 and any(row)):
            return False
        factors = [line.pop() / pivot if pivot else 0 for line in rows]
        rows = [[x - factor * y for x, y in zip(line, row)] for line, factor in zip(rows, factors)]
    return True


def value_of(rows, numbers):
    return sum(x * y * entry for x, row in zip(numbers, rows) for y, entry in zip(numbers, row))


def row_products(one, other):
    columns = list(zip(*other))
    return [[sum(x * y for x, y in zip(row, column) if x and y) for column in columns] for row in one]


def trace_of(rows, steps):
    power = [[Fraction(i == j) for j in range(len(rows))] for i in range(len(rows))]
    for _ in range(steps):
        power = row_products(power, rows)
    return sum(power[at][at] for at in range(len(rows)))


class Bag:
    """Weighted lots, reckoned by the words of the document alone."""

    def __init__(self, weights):
        self.weights = {lot: exact(weights[lot]) for lot in sorted(weights)}
        self.lots = list(self.weights)
        self.size = len(self.lots[0])
        self.total = sum(self.weights.values())

    def weight(self, *things):
        return sum(weight for lot, weight in self.weights.items() if set(things) <= set(lot))

    def pins(self, size):
        return [pin for pin in combinations(range(8), size) if self.weight(*pin)]

    def link(self, pin):
        return Bag({tuple(sorted(set(lot) - set(pin))): weight for lot, weight in self.weights.items()
                    if set(pin) <= set(lot)})

    def things(self):
        return [thing for thing in range(8) if self.weight(thing)]

    def pair_rows(self):
        """The pair weights of the link at ()."""
        return [[self.weight(x, y) if x != y else Fraction(0) for y in self.things()] for x in self.things()]

    def bound_rows(self, bound):
        """The table of [0.12] for the local walk at ()."""
        rows = self.pair_rows()
        masses = [sum(row) for row in rows]
        return [[bound * masses[i] * (i == j) - rows[i][j] + (1 - bound) * masses[i] * masses[j] / sum(masses)
                 for j in range(len(rows))] for i in range(len(rows))]

    def has_bound(self, bound):
        return bound <= 1 and no_minus(self.bound_rows(bound))

    def leave_rows(self):
        return [[Fraction(int(set(pin) <= set(lot)), self.size) for pin in self.pins(self.size - 1)]
                for lot in self.lots]

    def draw_rows(self):
        return [[self.weights[lot] / self.weight(*pin) if set(pin) <= set(lot) else Fraction(0) for lot in self.lots]
                for pin in self.pins(self.size - 1)]

    @cached_property
    def redraw(self):
        return row_products(self.leave_rows(), self.draw_rows())

    def redraw_rows(self):
        return self.redraw

    def grow_rows(self):
        return row_products(self.draw_rows(), self.leave_rows())

    def gap_rows(self, gap):
        """The table of [0.13]."""
        weights = list(self.weights.values())
        rows = self.redraw_rows()
        return [[(1 - gap) * weights[i] * (i == j) - weights[i] * rows[i][j] + gap * weights[i] * weights[j] / self.total
                 for j in range(len(rows))] for i in range(len(rows))]

    def has_gap(self, gap):
        return gap <= 1 and no_minus(self.gap_rows(gap))

    def shares(self):
        return [weight / self.total for weight in self.weights.values()]

    def variance(self, values):
        mean = sum(share * value for share, value in zip(self.shares(), values))
        return sum(share * (value - mean) ** 2 for share, value in zip(self.shares(), values))

    def flow(self, values):
        rows = self.redraw_rows()
        return sum(share * chance * (values[i] - values[j]) ** 2
                   for i, share in enumerate(self.shares()) for j, chance in enumerate(rows[i])) / 2


def product_of(numbers):
    return prod(numbers, start=Fraction(1))
