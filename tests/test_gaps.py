"""The promises [9.1] to [9.7], what [4.2], [4.4] and [4.5] say of gaps, and the functions of pinnedgaps.going.gaps."""

from fractions import Fraction
from itertools import permutations, product

from pinnedgaps.bags.lots import Lots, scaled_to
from pinnedgaps.bags.rows import joined, renamed, restricted
from pinnedgaps.base.tables import has_no_minus, value_at
from pinnedgaps.errors import InvalidOperation, InvalidRow, Refused
from pinnedgaps.going.gaps import (
    cut_quotient, flow_of, gap_row, gap_table, is_gap, local_gap, near_gap, row_quotient, trickle_gap)
from pinnedgaps.going.redraw import redraw_walk, walk_parts
from pinnedgaps.nearby.bounds import is_bound
from pinnedgaps.nearby.trickle import apart_pin, level_bounds, trickle_bounds
from tests.bags import (
    ALL, CHAIN, FIVES, FORTY_FIVES, FORTY_FOURS, FORTY_PAIRS, FORTY_THREES, FOURS, HEAVY, HINGE, LONGS, NO_LOTS, ONE,
    PAIR, PAIRS, SINGLE, SINGLES, SIXTIES, SMALL, THREE, TWO, UNLIKE, bag_of)
from tests.checks import Checks
from tests.exact import as_pair, exact, exact_row, exact_rows, product_of, value_of
from tests.examples import run_examples
from tests.samples import LONG, LONG_BOTTOM, ODD_VALUES, SIXTY

EXAMPLES = """
>>> [is_gap(PAIRS, (2, 3)), is_gap(PAIRS, (3, 4)), near_gap(PAIRS, 4), local_gap(PAIRS, 4), near_gap(THREE, 6), local_gap(THREE, 6), is_gap(THREE, -5)]
[True, False, (5, 8), (21, 32), (1, 2), (5, 12), True]
>>> [cut_quotient(PAIRS, ((0, 1),)), row_quotient(PAIRS, (1, 1, 1, 0, 0, 0)), flow_of(PAIRS, (1, 1, 1, 0, 0, 0)), gap_row(PAIRS, (2, 3))]
[(4, 5), (2, 3), (1, 6), None]
>>> [gap_table(Lots({(0,): 1, (1,): 3}), (1, 2)), near_gap(Lots({(0, 1): 5}), 3), is_gap(Lots({(0, 1): 5}), 7), gap_row(Lots({(0, 1): 5}), 7)]
[(((3, 8), (-3, 8)), ((-3, 8), (3, 8))), (1, 1), False, None]
>>> row_quotient(PAIRS, (1, 1, 1, 1, 1, 1))
raises InvalidOperation
"""

NUMBERS = (-SIXTY, -5, (-1, 3), 0, (0, 1), (1, LONG), (1, 100), (1, 10), (5, 12), (1, 2), (2, 3), (3, 4), (99, 100),
           (LONG - 1, LONG), 1, (1, 1), (LONG + 1, LONG), (3, 2), 7)
NO_VALUES = tuple(value for value in ODD_VALUES if repr(value) != "(1, 2, 3)") + (
    (1, 0), (1, 0, 0, 0), [1, 0, 0], (1, True, 0), (1, 0, None), (1, 0, (2, 4)), (1, 0, [1]), {0: 1}, THREE,
    (1, 0, 10 ** 60), (1, 0, THREE), (1, 0, "0"))
LARGE = (FORTY_PAIRS, FORTY_THREES, FORTY_FOURS, FORTY_FIVES)


def some_values(count):
    """Some tuples of numbers, one for each lot."""
    if count <= 4:
        return list(product((0, 1, (-1, 2)), repeat=count))
    return [tuple((at * at * 7 + at * step + step) % 11 - 5 for at in range(count)) for step in range(7)]


class ExamplesTest(Checks):
    def test_examples(self):
        run_examples(self, ["pinnedgaps.bags.lots", "pinnedgaps.going.gaps"], EXAMPLES)


class TableTest(Checks):
    def test_tables(self):
        for lots in SMALL + (LONGS, SIXTIES, FORTY_THREES):
            bag = bag_of(lots)
            for gap in (0, (1, 3), 1, (7, 2), -4, (LONG, LONG_BOTTOM)):
                found = gap_table(lots, gap)
                self.assert_fraction_rows(found)
                self.assertEqual(exact_rows(found), bag.gap_rows(exact(gap)))

    def test_gaps(self):
        for lots in SMALL + (SIXTIES,):
            bag = bag_of(lots)
            for gap in NUMBERS:
                self.assertIs(is_gap(lots, gap), bag.has_gap(exact(gap)), (lots, gap))

    def test_gaps_of_many_lots(self):
        for lots in LARGE + (FIVES, LONGS):
            bag = bag_of(lots)
            for gap in (-1, 0, (1, 30), (1, 8), (1, 2), 1):
                self.assertIs(is_gap(lots, gap), bag.has_gap(exact(gap)))

    def test_the_ends_of_gaps(self):
        just_above = as_pair(Fraction(2, 3) + Fraction(1, LONG))
        just_below = as_pair(Fraction(2, 3) - Fraction(1, LONG))
        self.assertEqual([is_gap(PAIRS, just_below), is_gap(PAIRS, (2, 3)), is_gap(PAIRS, just_above)],
                         [True, True, False])
        for lots in (TWO, Lots({(0, 1): 1, (2, 3): 1})):
            self.assertEqual([is_gap(lots, 0), is_gap(lots, (1, LONG)), near_gap(lots, 30)], [True, False, (0, 1)])
        for lots in (SINGLE, SINGLES, PAIR, ONE):
            self.assertEqual([is_gap(lots, 1), is_gap(lots, (LONG + 1, LONG)), near_gap(lots, 30), near_gap(lots, 0)],
                             [True, False, (1, 1), (1, 1)])

    def test_judged_values(self):
        for lots in (PAIRS, SINGLE, ONE):
            self.each_judged(False, ODD_VALUES + (PAIRS, [0], {0: 1}, (0, 0)), lambda value: is_gap(lots, value))


class NearTest(Checks):
    def test_near_gaps(self):
        for lots in SMALL + (LONGS, SIXTIES):
            bag = bag_of(lots)
            for halvings in (0, 1, 4, 9):
                self.assert_near(bag, near_gap(lots, halvings), halvings)

    def test_thirty_halvings(self):
        for lots in (PAIRS, THREE, HEAVY, CHAIN, HINGE, UNLIKE, SIXTIES, LONGS, FORTY_PAIRS, FORTY_THREES):
            self.assert_near(bag_of(lots), near_gap(lots, 30), 30)
        self.assertEqual(near_gap(PAIRS, 30), as_pair(Fraction(2 ** 31 // 3, 2 ** 30)))

    def test_forty_lots(self):
        for lots in (FORTY_FOURS, FORTY_FIVES):
            self.assert_near(bag_of(lots), near_gap(lots, 12), 12)

    def test_weights_of_many_sizes(self):
        # Here a rounded walk tells little: the least shares are rounded away.
        lots = Lots({(0, 1, 2): 1, (0, 1, 3): 10 ** 59, (1, 2, 3): (1, 10 ** 50), (0, 2, 4): 10 ** 30, (2, 3, 4): 7})
        for halvings in (3, 30):
            self.assert_near(bag_of(lots), near_gap(lots, halvings), halvings)

    def assert_near(self, bag, found, halvings):
        self.assert_fractions((found,))
        step = Fraction(1, 2 ** halvings)
        self.assertEqual(exact(found) % step, 0)
        self.assertTrue(0 <= exact(found) <= 1)
        self.assertTrue(bag.has_gap(exact(found)))
        self.assertTrue(exact(found) == 1 or not bag.has_gap(exact(found) + step))

    def test_local_gaps(self):
        for lots in ALL:
            for halvings in (0, 5):
                wanted = product_of(1 - exact(bound) for bound in level_bounds(lots, halvings)) / lots.size
                found = local_gap(lots, halvings)
                self.assertEqual(found, as_pair(wanted))
                self.assert_fractions((found,))
                self.assertTrue(is_gap(lots, found))
        self.assertEqual([local_gap(SINGLES, 0), local_gap(SINGLE, 30), local_gap(TWO, 30)], [(1, 1), (1, 1), (0, 1)])
        self.assertEqual(local_gap(PAIRS, 30), (2 ** 30 + 2 ** 30 // 3, 2 ** 31))

    def test_trickle_gaps(self):
        for lots in SMALL + (SIXTIES,) + LARGE:
            for halvings in (0, 5, 30):
                apart = apart_pin(lots)
                if apart is not None:
                    self.assertEqual(self.raised(Refused, trickle_gap, lots, halvings).reason, ("apart", apart))
                    continue
                wanted = product_of(1 - exact(bound) for bound in trickle_bounds(lots, halvings)) / lots.size
                found = trickle_gap(lots, halvings)
                self.assertEqual(found, as_pair(wanted))
                self.assertTrue(is_gap(lots, found))
        self.assertEqual([trickle_gap(SINGLES, 0), trickle_gap(THREE, 6)], [(1, 1), (1, 3)])


class FlowTest(Checks):
    def test_flows_and_quotients(self):
        for lots in SMALL + (LONGS, SIXTIES, FORTY_THREES):
            bag = bag_of(lots)
            for values in some_values(len(lots))[::2]:
                flow, variance = bag.flow(exact_row(values)), bag.variance(exact_row(values))
                self.assertEqual(flow_of(lots, values), as_pair(Fraction(flow)))
                self.assert_fractions((flow_of(lots, values),))
                if variance == 0:
                    self.raised(InvalidOperation, row_quotient, lots, values)
                else:
                    self.assertEqual(row_quotient(lots, values), as_pair(flow / variance))
                    self.assert_fractions((row_quotient(lots, values),))

    def test_long_values(self):
        self.assertEqual(exact(flow_of(SINGLES, ((LONG, LONG_BOTTOM), 0, -SIXTY, (1, 3)))),
                         bag_of(SINGLES).flow([Fraction(LONG, LONG_BOTTOM), 0, -SIXTY, Fraction(1, 3)]))
        self.assertEqual(row_quotient(SINGLES, ((LONG, LONG_BOTTOM), 0, -SIXTY, (1, 3))), (1, 1))

    def test_one_lot_has_no_quotient(self):
        for lots in (SINGLE, PAIR, ONE):
            self.assertEqual(flow_of(lots, (SIXTY,)), (0, 1))
            self.raised(InvalidOperation, row_quotient, lots, (SIXTY,))
            self.each_raises(InvalidOperation, ((), lots.lots), lambda value: cut_quotient(lots, value))

    def test_wrong_values(self):
        self.each_raises(InvalidRow, NO_VALUES, lambda value: flow_of(THREE, value))
        self.each_raises(InvalidRow, NO_VALUES, lambda value: row_quotient(THREE, value))

    def test_cuts(self):
        for lots in SMALL + (SIXTIES,):
            rows = exact_rows(redraw_walk(lots))
            shares = [exact(lots.share_of(lot)) for lot in lots.lots]
            for some in range(1, 2 ** min(len(lots), 6) - (len(lots) <= 6)):
                inside = [at for at in range(len(lots)) if some >> at & 1]
                outside = [at for at in range(len(lots)) if not some >> at & 1]
                across = sum(shares[i] * rows[i][j] for i in inside for j in outside)
                wanted = across / sum(shares[i] for i in inside) / sum(shares[j] for j in outside)
                found = cut_quotient(lots, tuple(lots.lots[at] for at in inside))
                self.assertEqual(found, as_pair(wanted))
                self.assertEqual(found, row_quotient(lots, tuple(some >> at & 1 for at in range(len(lots)))))

    def test_wrong_cuts(self):
        self.each_raises(InvalidOperation, ODD_VALUES + (
            (), PAIRS.lots, ((0, 2), (0, 1)), ((0, 1), (0, 1)), ((0, 4),), ((1, 0),), ((0, 1), (1,)), [(0, 1)],
            {(0, 1): 1}, (0, 1), ((0, True),), ((0, 1), [0, 2]), ((0, 1), None), ((0, 1), {}), PAIRS, (PAIRS,)),
            lambda value: cut_quotient(PAIRS, value))


class RowTest(Checks):
    def test_gap_rows(self):
        for lots in SMALL + (SIXTIES, FIVES):
            bag = bag_of(lots)
            for gap in (-1, 0, (1, 10), (1, 2), (2, 3), (5, 6), 1, (3, 2), 7):
                found = gap_row(lots, gap)
                self.assertEqual(found is None, bag.has_gap(exact(gap)) or len(lots) == 1)
                if found is not None:
                    self.assert_low(bag, gap, found)

    def test_gap_rows_of_forty_lots(self):
        for lots in LARGE:
            self.assertIsNone(gap_row(lots, 0))
            self.assert_low(bag_of(lots), (99, 100), gap_row(lots, (99, 100)))

    def assert_low(self, bag, gap, values):
        self.assert_fractions(values)
        self.assertEqual(len(values), len(bag.lots))
        values = exact_row(values)
        self.assertLess(bag.flow(values), exact(gap) * bag.variance(values))

    def test_above_1(self):
        for lots in (SINGLE, PAIR, ONE):
            self.assertIsNone(gap_row(lots, 7))
        for lots in (SINGLES, PAIRS):
            self.assert_low(bag_of(lots), (LONG + 1, LONG), gap_row(lots, (LONG + 1, LONG)))


class RefusedTest(Checks):
    def test_wrong_lots(self):
        calls = []
        for call in (gap_table, is_gap, gap_row, near_gap, local_gap, trickle_gap, flow_of, row_quotient, cut_quotient):
            calls += [(call, (0,)), (call, (None,)), (call, ((),))]
        self.lots_are_refused_first(NO_LOTS, calls)

    def test_wrong_numbers(self):
        for call in (gap_table, gap_row):
            self.each_refused_number(ODD_VALUES + (PAIRS,), lambda value, call=call: call(PAIRS, value))

    def test_wrong_halvings(self):
        for call in (near_gap, local_gap, trickle_gap):
            for lots in (PAIRS, SINGLE, TWO):
                self.each_refused_number(ODD_VALUES + (-1, 31, (1, 1), PAIRS),
                                         lambda value, call=call: call(lots, value))


class PromisesTest(Checks):
    def test_gaps_are_the_numbers_up_to_one(self):
        for lots in SMALL + (FIVES,):
            found = [is_gap(lots, gap) for gap in sorted(NUMBERS, key=exact)]
            self.assertEqual(found, sorted(found, reverse=True))
            self.assertTrue(is_gap(lots, 0))
            self.assertFalse(is_gap(lots, (LONG + 1, LONG)))

    def test_gaps_are_told_by_the_table(self):
        for lots in SMALL:
            for gap in NUMBERS:
                if exact(gap) <= 1:
                    self.assertEqual(is_gap(lots, gap), has_no_minus(gap_table(lots, gap)))
                else:
                    self.assertEqual(has_no_minus(gap_table(lots, gap)), len(lots) == 1)

    def test_values_of_the_table(self):
        for lots in SMALL:
            bag = bag_of(lots)
            for values in some_values(len(lots))[:9]:
                for gap in (0, (1, 3), 1, 2):
                    wanted = bag.total * (bag.flow(exact_row(values)) - exact(gap) * bag.variance(exact_row(values)))
                    self.assertEqual(exact(value_at(gap_table(lots, gap), values)), wanted)
                    self.assertEqual(value_of(bag.gap_rows(exact(gap)), exact_row(values)), wanted)

    def test_quotients_are_at_least_each_gap(self):
        for lots in SMALL + (FIVES, FORTY_THREES):
            gap = exact(near_gap(lots, 10))
            for values in some_values(len(lots)):
                if bag_of(lots).variance(exact_row(values)):
                    self.assertTrue(gap <= exact(row_quotient(lots, values)) <= 1)

    def test_one_number_for_all_weights(self):
        for lots in SMALL:
            other = scaled_to(lots, (LONG, LONG_BOTTOM))
            for gap in NUMBERS:
                self.assertEqual(is_gap(lots, gap), is_gap(other, gap))

    def test_a_gap_above_0_with_one_part_alone(self):
        for lots in SMALL + (FIVES,):
            self.assertEqual(is_gap(lots, (1, 10 ** 30)), len(walk_parts(lots)) == 1)

    def test_products_of_bounds_are_gaps(self):
        for lots in ALL:
            for halvings in (0, 2, 8):
                self.assertTrue(is_gap(lots, local_gap(lots, halvings)))

    def test_local_gaps_do_not_fall_with_more_halvings(self):
        for lots in SMALL + (FIVES,):
            found = [exact(local_gap(lots, halvings)) for halvings in range(9)]
            self.assertEqual(found, sorted(found))

    def test_pairs(self):
        for lots in (PAIRS, HEAVY, CHAIN, PAIR, FORTY_PAIRS, LONGS, Lots({(0, 1): 1, (2, 3): 1})):
            for gap in NUMBERS:
                if 0 <= exact(gap) <= 1:
                    self.assertEqual(is_gap(lots, gap), is_bound(lots, (), as_pair(1 - 2 * exact(gap))))

    def test_local_gaps_are_not_the_greatest(self):
        self.assertLess(exact(local_gap(THREE, 30)) + Fraction(1, 2 ** 20), exact(near_gap(THREE, 30)))

    def test_gaps_above_1_by_d(self):
        self.assertGreater(exact(near_gap(PAIRS, 4)), Fraction(1, 2))
        self.assertGreater(exact(near_gap(ONE, 4)), Fraction(1, 5))


class MadeLotsTest(Checks):
    pairs = ((PAIRS, Lots({(0,): 1, (1,): 2})), (CHAIN, Lots({(0,): 1, (1,): 2})), (CHAIN, HEAVY),
             (THREE, Lots({(0, 1): 1, (1, 2): 3})), (Lots({(0,): 1, (1,): 2}), Lots({(0,): 1, (1,): 2})),
             (Lots({(0, 1): 1, (2, 3): 1}), PAIRS))

    def test_joined_lots(self):
        for one, other in self.pairs:
            found = joined(one, other)
            for gap in (-5, 0, (1, 100), (1, 6), (1, 5), (3, 10), (1, 3), (2, 5), (1, 2), (2, 3), 1, (3, 2)):
                first = exact(gap) * found.size / one.size
                second = exact(gap) * found.size / other.size
                self.assertEqual(is_gap(found, gap), is_gap(one, as_pair(first)) and is_gap(other, as_pair(second)))

    def test_gaps_of_joined_lots_come_from_both(self):
        for one, other in self.pairs + ((HEAVY, Lots({(2, 3): 7})), (SINGLE.link(()), SINGLE)):
            if one.things[-1] + 1 + other.things[-1] <= 7:
                found = joined(one, other)
                lesser = min(one.size * exact(near_gap(one, 12)), other.size * exact(near_gap(other, 12)))
                self.assertTrue(is_gap(found, as_pair(lesser / found.size)))

    def test_renamed_lots(self):
        for lots in (THREE, HEAVY, CHAIN, UNLIKE):
            for names in list(permutations((0, 2, 4, 5, 7)))[::17]:
                other = renamed(lots, dict(zip(lots.things, names)))
                self.assertEqual([near_gap(lots, 4), local_gap(lots, 4)], [near_gap(other, 4), local_gap(other, 4)])

    def test_restricted_lots_do_not_have_the_gaps_of_the_lots(self):
        some = restricted(PAIRS, ((0, 1), (2, 3)))
        self.assertEqual([near_gap(PAIRS, 4), near_gap(some, 4)], [(5, 8), (0, 1)])

    def test_fours(self):
        self.assertEqual(local_gap(FOURS, 4), as_pair(Fraction(17 * 16 * 7, 16 ** 3 * 4)))
