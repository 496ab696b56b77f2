"""The promises [16.1] to [16.5], and the functions of pinnedgaps.going.both."""

from fractions import Fraction
from itertools import product

from pinnedgaps.base.numbers import compared
from pinnedgaps.errors import InvalidField, InvalidNumber, InvalidOperation, InvalidRow
from pinnedgaps.going import both as module
from pinnedgaps.going.both import (
    are_below, chance, corner_shares, dependence, dependence_gap, dependence_sum, dependence_table, has_order,
    order_fault, redrawn)
from pinnedgaps.going.gaps import is_gap, near_gap
from pinnedgaps.going.redraw import redraw_walk
from pinnedgaps.twostate.fields import Field, field_lots, share
from tests.checks import Checks
from tests.exact import as_pair, as_pairs, exact, exact_rows
from tests.examples import run_examples
from tests.samples import LONG_BOTTOM, ODD_VALUES
from tests.webs import (
    ALL, APART, COUPLE, FIVE, FREE_FULL, FREE_NONE, FREE_RING, FULL, HALF, KIND, LARGE, LINE, LONE, LONGS, MIXED,
    NO_FIELDS, NO_PLACES, NO_ROWS, RING, SIXTIES, SLACK, SMALL, STIFF, STILL, WHEEL, mixed_field, ring_ties, web_of)

EXAMPLES = """
>>> HALF, KIND = Field.free(4, ((0, 1), (0, 3), (1, 2), (2, 3)), (1, 2)), Field(((1, 1), (1, 1), (2, 1)), {(0, 1): ((2, 1), (1, 1)), (1, 2): ((1, 1), (1, 3))})
>>> [dependence_table(MIXED), dependence(MIXED, 1, 0), dependence_sum(HALF), dependence_gap(HALF), dependence_sum(RING)]
[(((0, 1), (5, 14), (1, 6)), ((2, 5), (0, 1), (2, 5)), ((1, 6), (5, 14), (0, 1))), (2, 5), (2, 3), (1, 12), (1, 1)]
>>> [has_order(KIND), order_fault(MIXED), chance(KIND, 1, (0, 0, 1)), redrawn(KIND, (0, 0, 1), 1, (3, 5)), redrawn(KIND, (0, 0, 1), 1, (1, 2)), are_below(KIND, (0, 0, 1), (0, 1, 1))]
[True, (0, 2), (3, 5), (0, 0, 1), (0, 1, 1), True]
>>> [corner_shares(KIND, 0), corner_shares(KIND, 1)]
[(((0, 1), (0, 1), (0, 1)), ((1, 1), (1, 1), (1, 1))), (((1, 9), (1, 9), (1, 9)), ((5, 6), (11, 12), (13, 15)))]
>>> dependence_gap(RING)
raises Refused(('sum', (1, 1)))
"""

# Ties that like equal states: with the first product at least the other one.
ALIKE = Field(((1, 2), (3, 1), (1, 1), (2, 5)), {
    (0, 1): ((3, 1), (2, 1)), (0, 3): ((1, 1), (1, 1)), (1, 2): ((1, (1, 2)), (1, 3)), (2, 3): ((2, 1), (1, 2))})
ALIKE_SIX = Field(((1, 1), (2, 3), (1, 0), (1, 2), (3, 1), (1, 1)), {
    tie: ((2, 1), (1, 1 + at % 2)) for at, tie in enumerate(ring_ties(6))})
# The row of ones cannot be, nor most others.
ONE_SIDED = Field(((1, 0), (1, 1)), {(0, 1): ((1, 1), (1, 2))})
ORDERED = (KIND, ALIKE, ALIKE_SIX, ONE_SIDED, LONE, STILL, APART)
WEAK = Field(((1, 1), (1, 2), (2, 1)), {(0, 1): ((5, 4), (4, 5)), (0, 2): ((1, 1), (1, 2)), (1, 2): ((3, 2), (2, 1))})


def chance_of(web, place, row):
    worths = [web.places[place][state] * worth for state, worth in enumerate(beside(web, place, row))]
    return worths[1] / sum(worths)


def beside(web, place, row):
    """For both states the product of the weights at all ties of the place with the states of the row."""
    found = [Fraction(1), Fraction(1)]
    for j in web.beside(place):
        for state in (0, 1):
            found[state] *= web.weights_at(place, j)[state][row[j]]
    return found


def all_rows(field):
    return list(product((0, 1), repeat=field.size))


def turned(row, place):
    return row[:place] + (1 - row[place],) + row[place + 1:]


def corners_of(web, steps):
    """The chances of both corners by the words of [16.4]."""
    rows = list(product((0, 1), repeat=web.size))
    found = []
    for start in (rows[0], rows[-1]):
        worths = {row: Fraction(row == start) for row in rows}
        for _ in range(steps):
            fresh = {row: Fraction(0) for row in rows}
            for row, worth in worths.items():
                for place in range(web.size if worth else 0):
                    own = chance_of(web, place, row)
                    fresh[row[:place] + (1,) + row[place + 1:]] += worth * own / web.size
                    fresh[row[:place] + (0,) + row[place + 1:]] += worth * (1 - own) / web.size
            worths = fresh
        found.append(as_pairs(sum(worth for row, worth in worths.items() if row[place])
                              for place in range(web.size)))
    return tuple(found)


class ExamplesTest(Checks):
    def test_examples(self):
        run_examples(self, ["pinnedgaps.going.both"], EXAMPLES)

    def test_constants(self):
        self.assertEqual(module.MOST_STEPS, 10)


class ChanceTest(Checks):
    def test_chances(self):
        for field in ALL + ORDERED:
            web = web_of(field)
            for row in all_rows(field)[::5 if field in LARGE else 1]:
                for place in range(field.size):
                    found = chance(field, place, row)
                    self.assert_fractions((found,))
                    self.assertEqual(exact(found), chance_of(web, place, row))
                    self.assertEqual(found, chance(field, place, turned(row, place)))

    def test_edges(self):
        self.assertEqual([chance(LONE, 0, (0,)), chance(LONE, 0, (1,)), chance(STILL, 0, (1,)), chance(STILL, 0, (0,))],
                         [(6, 7), (6, 7), (0, 1), (0, 1)])
        # Rows of the weight 0.
        self.assertEqual([chance(RING, 0, (1, 1, 1, 1)), chance(RING, 2, (1, 0, 1, 0)), chance(SLACK, 1, (1, 1, 1))],
                         [(0, 1), (1, 2), (0, 1)])

    def test_redrawn(self):
        for field in SMALL + (FIVE,):
            for row in all_rows(field)[::3]:
                for place in range(field.size):
                    own = exact(chance(field, place, row))
                    for number in (0, (1, 3), (1, 2), (999, 1000), (10 ** 70 - 1, 10 ** 70)):
                        found = redrawn(field, row, place, number)
                        self.assertEqual(found, row[:place] + (int(exact(number) < own),) + row[place + 1:])
                    if own < 1:
                        self.assertEqual(redrawn(field, row, place, as_pair(own))[place], 0)
                        self.assertEqual(redrawn(field, row, place, as_pair(own * Fraction(99999, 100000)))[place],
                                         int(own > 0))

    def test_the_walk_of_the_rows(self):
        for field in SMALL:
            rows = list(web_of(field).rows)
            walk = exact_rows(redraw_walk(field_lots(field)))
            for i, row in enumerate(rows):
                for j, other in enumerate(rows):
                    wanted = Fraction(0)
                    for place in range(field.size):
                        own = exact(chance(field, place, row))
                        for state, part in ((1, own), (0, 1 - own)):
                            wanted += part * (row[:place] + (state,) + row[place + 1:] == other)
                    self.assertEqual(walk[i][j], wanted / field.size)

    def test_wrong_arguments(self):
        self.each_refused_number(NO_PLACES + (3,), lambda value: chance(MIXED, value, (0, 0, 0)))
        self.each_raises(InvalidRow, NO_ROWS, lambda value: chance(MIXED, 0, value))
        self.each_raises(InvalidRow, NO_ROWS, lambda value: redrawn(MIXED, value, 0, 0))
        self.each_refused_number(NO_PLACES + (3,), lambda value: redrawn(MIXED, (0, 0, 0), value, 0))
        self.each_refused_number([value for value in ODD_VALUES if repr(value) != "(0, 2)"] + [
            1, -1, 2, (1, 1), (-1, 2), (3, 2), (2, 1), "0", RING, (10 ** 70 + 1, 10 ** 70), (LONG_BOTTOM + 1, LONG_BOTTOM)],
            lambda value: redrawn(MIXED, (0, 0, 0), 0, value))
        self.refused_in_order(chance, (MIXED, 0, (0, 0, 0)), (
            (None, InvalidField), (3, InvalidNumber), ((0, 0), InvalidRow)))
        self.refused_in_order(redrawn, (MIXED, (0, 0, 0), 0, 0), (
            (None, InvalidField), ((0, 0), InvalidRow), (3, InvalidNumber), (1, InvalidNumber)))
        self.fields_are_refused_first(NO_FIELDS, ((chance, (0, (0,))), (redrawn, ((0,), 0, 0)), (are_below, ((0,), (0,)))))


class DependenceTest(Checks):
    def wanted(self, web, i, j, rows):
        return max((abs(chance_of(web, i, row) - chance_of(web, i, turned(row, j))) for row in rows if i != j),
                   default=Fraction(0))

    def test_tables(self):
        for field in SMALL + (FIVE, WEAK, FREE_RING):
            web, rows = web_of(field), all_rows(field)
            found = dependence_table(field)
            self.assert_fraction_rows(found)
            wanted = [[self.wanted(web, i, j, rows) for j in range(field.size)] for i in range(field.size)]
            self.assertEqual(exact_rows(found), wanted)
            self.assertEqual(found, tuple(tuple(
                dependence(field, i, j) for j in range(field.size)) for i in range(field.size)))
            self.assertEqual(exact(dependence_sum(field)), max(map(sum, wanted)))

    def test_six_places(self):
        for field in (FULL, WHEEL):
            web, rows = web_of(field), all_rows(field)
            for i, j in ((0, 1), (1, 0), (5, 2), (3, 4), (4, 3)):
                self.assertEqual(exact(dependence(field, i, j)), self.wanted(web, i, j, rows))

    def test_edges(self):
        self.assertEqual([dependence_table(LONE), dependence_sum(LONE), dependence_gap(LONE), dependence(STILL, 0, 0)],
                         [(((0, 1),),), (0, 1), (1, 1), (0, 1)])
        self.assertEqual([dependence_table(APART), dependence_gap(APART)], [(((0, 1),) * 6,) * 6, (1, 6)])
        self.assertEqual([dependence(RING, 0, 2), dependence(RING, 1, 1), dependence_sum(FREE_FULL)], [(0, 1), (0, 1), (10, 3)])

    def test_gaps(self):
        for field in SMALL + (FIVE, WEAK, FREE_RING):
            found = exact(dependence_sum(field))
            if found < 1:
                self.assertEqual(exact(dependence_gap(field)), (1 - found) / field.size)
                if field.size <= 4:
                    self.assertTrue(is_gap(field_lots(field), dependence_gap(field)))
            else:
                self.refused_for(("sum", as_pair(found)), dependence_gap, field)
        self.assertLess(exact(dependence_sum(WEAK)), 1)

    def test_just_below_1_and_just_1(self):
        below = Field.free(4, ((0, 1), (0, 3), (1, 2), (2, 3)), (999, 1000))
        self.assertEqual([dependence_sum(below), dependence_gap(below)], [(1998, 1999), (1, 7996)])
        self.refused_for(("sum", (1, 1)), dependence_gap, RING)
        pair = Field.free(2, ((0, 1),), (10 ** 59, 1))
        self.assertEqual([dependence_sum(pair), dependence_gap(pair)], [(10 ** 59, 10 ** 59 + 1), (1, 2 * 10 ** 59 + 2)])
        three = Field.free(4, ((0, 1), (0, 2), (0, 3)), (1, 2))
        self.refused_for(("sum", (1, 1)), dependence_gap, three)

    def test_long_weights(self):
        web, rows = web_of(LONGS), all_rows(LONGS)
        self.assertEqual(exact(dependence(LONGS, 0, 1)), self.wanted(web, 0, 1, rows))
        self.assertEqual(exact(dependence(SIXTIES, 2, 1)), self.wanted(web_of(SIXTIES), 2, 1, rows))

    def test_wrong_arguments(self):
        self.each_refused_number(NO_PLACES + (4,), lambda value: dependence(RING, value, 0))
        self.each_refused_number(NO_PLACES + (4,), lambda value: dependence(RING, 0, value))
        self.refused_in_order(dependence, (RING, 0, 1), ((None, InvalidField), (4, InvalidNumber), (-1, InvalidNumber)))
        self.fields_are_refused_first(NO_FIELDS, (
            (dependence, (0, 0)), (dependence, (9, 9)), (dependence_table, ()), (dependence_sum, ()), (dependence_gap, ()),
            (has_order, ()), (order_fault, ()), (corner_shares, (0,)), (corner_shares, (11,))))


class OrderTest(Checks):
    def test_faults(self):
        for field in ALL + ORDERED:
            faults = [tie for tie, table in web_of(field).ties.items()
                      if table[0][0] * table[1][1] < table[0][1] * table[1][0]]
            self.assertEqual(order_fault(field), min(faults) if faults else None)
            self.assertIs(has_order(field), not faults)
        self.assertEqual([has_order(field) for field in ORDERED], [True] * len(ORDERED))

    def test_just_the_same_product(self):
        self.assertTrue(has_order(Field(((1, 1), (1, 1)), {(0, 1): ((2, 4), (3, 6))})))
        self.assertEqual(order_fault(Field(((1, 1), (1, 1)), {(0, 1): ((2, 4), (3, (59, 10)))})), (0, 1))
        self.assertTrue(has_order(Field(((1, 1), (1, 1)), {(0, 1): ((2, 4), (3, (61, 10)))})))

    def test_the_least_fault(self):
        good, bad = ((1, 1), (1, 1)), ((1, 1), (1, 0))
        field = Field(((1, 1),) * 4, {(2, 3): bad, (0, 1): good, (1, 2): bad, (0, 3): good, (1, 3): bad})
        self.assertEqual(order_fault(field), (1, 2))

    def test_rows_below(self):
        for field in (LONE, COUPLE, MIXED, RING):
            for row in all_rows(field):
                for other in all_rows(field):
                    self.assertIs(are_below(field, row, other), all(x <= y for x, y in zip(row, other)))
        self.assertTrue(are_below(RING, (0, 0, 1, 1), (1, 1, 1, 1)))

    def test_no_rows(self):
        self.each_judged(False, NO_ROWS, lambda value: are_below(MIXED, (0, 0, 0), value))
        self.each_raises(InvalidRow, NO_ROWS, lambda value: are_below(MIXED, value, (1, 1, 1)))
        self.refused_in_order(are_below, (MIXED, (0, 0, 0), None), ((None, InvalidField), ((0, 0), InvalidRow)))

    def test_order_is_kept(self):
        for field in (KIND, ALIKE, ONE_SIDED):
            for row in all_rows(field):
                for other in all_rows(field):
                    if are_below(field, row, other):
                        for place in range(field.size):
                            self.assertLessEqual(compared(chance(field, place, row), chance(field, place, other)), 0)
                            for number in (0, (1, 3), (1, 2), (2, 3), (99, 100)):
                                self.assertTrue(are_below(field, redrawn(field, row, place, number),
                                                          redrawn(field, other, place, number)))


class CornersTest(Checks):
    def test_corners(self):
        for field in (KIND, ALIKE, ONE_SIDED, LONE, STILL):
            for steps in (0, 1, 2, 5, 10):
                found = corner_shares(field, steps)
                self.assert_fraction_rows(found)
                self.assertEqual(found, corners_of(web_of(field), steps))
        for field in (ALIKE_SIX, APART):
            self.assertEqual(corner_shares(field, 3), corners_of(web_of(field), 3))

    def test_rows_of_the_weight_0(self):
        self.assertEqual(corner_shares(ONE_SIDED, 0), (((0, 1), (0, 1)), ((1, 1), (1, 1))))
        self.assertEqual(corner_shares(ONE_SIDED, 1), (((0, 1), (1, 4)), ((1, 2), (5, 6))))

    def test_corners_enclose_the_shares(self):
        for field in ORDERED:
            shares = [exact(share(field, place, {})) for place in range(field.size)]
            last = [[Fraction(state)] * field.size for state in (0, 1)]
            for steps in range(11 if field.size < 5 else 5):
                low, high = exact_rows(corner_shares(field, steps))
                for place in range(field.size):
                    self.assertTrue(last[0][place] <= low[place] <= shares[place] <= high[place] <= last[1][place])
                last = [low, high]

    def test_ten_steps_of_six_places(self):
        low, high = exact_rows(corner_shares(ALIKE_SIX, 10))
        self.assertTrue(all(x < y for x, y in zip(low[:2], high[:2])))

    def test_wrong_steps(self):
        self.each_refused_number(ODD_VALUES + (-1, 11, (1, 1), RING), lambda value: corner_shares(KIND, value))
        self.each_refused_number(ODD_VALUES + (-1, 11, (1, 1), RING), lambda value: corner_shares(RING, value))
        for field in (RING, MIXED, LINE, FREE_NONE, FULL):
            self.raised(InvalidOperation, corner_shares, field, 0)
        self.refused_in_order(corner_shares, (KIND, 0), ((None, InvalidField), (11, InvalidNumber)))


class PromisesTest(Checks):
    def test_dependence_is_not_symmetric(self):
        self.assertNotEqual(dependence(MIXED, 0, 1), dependence(MIXED, 1, 0))

    def test_without_such_a_gap_there_can_be_one(self):
        self.refused_for(("sum", (1, 1)), dependence_gap, RING)
        self.assertGreater(near_gap(field_lots(RING), 6)[0], 0)

    def test_corners_do_not_enclose_without_order(self):
        star = Field.free(4, ((0, 1), (0, 2), (0, 3)), 9)
        self.raised(InvalidOperation, corner_shares, star, 1)
        low, high = corners_of(web_of(star), 1)
        own = exact(share(star, 0, {}))
        self.assertTrue(exact(low[0]) > own)
        self.assertTrue(exact(high[1]) < exact(share(star, 1, {})))

    def test_dependence_gaps_of_samples(self):
        for field in (HALF, STIFF, mixed_field(3, ((0, 1),), 12)):
            if exact(dependence_sum(field)) < 1:
                self.assertTrue(is_gap(field_lots(field), dependence_gap(field)))
