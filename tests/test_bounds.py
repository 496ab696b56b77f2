"""The promises [6.1] to [6.5], and the functions of pinnedgaps.nearby.bounds."""

from fractions import Fraction
from itertools import product

from pinnedgaps.bags.lots import Lots, scaled_to
from pinnedgaps.base.tables import has_no_minus, type_of, value_at
from pinnedgaps.errors import InvalidOperation, InvalidPin, InvalidRow
from pinnedgaps.nearby.bounds import (
    bound_table, is_bound, is_low_row, low_row, near_bound, row_quotient_at, value_stretch)
from pinnedgaps.nearby.local import hangs_together, link_things, masses, pair_weights
from tests.bags import (
    ALL, CHAIN, FORTY_FIVES, FORTY_PAIRS, FORTY_THREES, HEAVY, HINGE, LONGS, NO_LOTS, NO_PINS, ONE, PAIR, PAIRS, SINGLE,
    SINGLES, SIXTIES, SMALL, THREE, TWO, bag_of)
from tests.checks import Checks
from tests.exact import as_pair, exact, exact_row, exact_rows
from tests.examples import run_examples
from tests.samples import LONG, LONG_BOTTOM, ODD_VALUES, SIXTY
from tests.test_local import places_of

EXAMPLES = """
>>> [near_bound(PAIRS, (), 1), near_bound(PAIRS, (), 4), near_bound(THREE, (), 3), near_bound(THREE, (0,), 4), near_bound(THREE, (1,), 4), is_bound(PAIRS, (), (-1, 3)), is_bound(PAIRS, (), 2)]
[(0, 1), (-5, 16), (-1, 4), (-1, 2), (0, 1), True, False]
>>> [bound_table(THREE, (1,), 0), is_low_row(THREE, (1,), (-1, 2), (0, 1, 1)), low_row(PAIRS, (), 0), value_stretch(PAIRS, (), 2)]
[(((1, 1), (-1, 2), (-1, 2)), ((-1, 2), (1, 4), (1, 4)), ((-1, 2), (1, 4), (1, 4))), False, None, ((-1, 2), (-1, 4))]
>>> HEAVY = Lots({(0, 1): 1, (0, 2): 1, (0, 3): 1, (1, 2): 1, (1, 3): 1, (2, 3): 9})
>>> [row_quotient_at(HEAVY, (), (1, 1, -1, -1)), is_bound(HEAVY, (), (5, 33)), is_bound(HEAVY, (), (5, 34)), row_quotient_at(THREE, (1,), (0, 1, -1)), near_bound(Lots({(0, 1): 1, (2, 3): 3}), (), 5)]
[(5, 33), True, False, (0, 1), (1, 1)]
>>> bound_table(THREE, (0, 1), 0)
raises InvalidOperation
"""

BOUNDS = (-1, (-1, 1), (-5, 4), -7, (-1, 2), (-1, 3), (-1, 4), (-1, 5), 0, (0, 1), (1, 100), (5, 33), (5, 34), (1, 3),
          (1, 2), (99, 100), (SIXTY - 1, SIXTY), 1, (1, 1))
LONG_BOUNDS = ((-LONG, LONG * 3 + 1), (SIXTY - 1, SIXTY), (LONG - 1, LONG))
ABOVE_1 = (2, (3, 2), (SIXTY, SIXTY - 1), (LONG + 1, LONG))
NUMBER_CALLS = (bound_table, is_bound, low_row)


def uneven_rows(count):
    """Some rows of numbers that are not made of one number alone."""
    if count <= 4:
        rows = product((0, 1, -1, (1, 2)), repeat=count)
    else:
        rows = (tuple((at * at * 7 + at * step + step) % 11 - 5 for at in range(count)) for step in range(9))
    return [row for row in rows if len(set(map(exact, row))) > 1]


class ExamplesTest(Checks):
    def test_examples(self):
        run_examples(self, ["pinnedgaps.bags.lots", "pinnedgaps.nearby.bounds"], EXAMPLES)


class TableTest(Checks):
    def test_tables(self):
        for lots in SMALL + (LONGS, SIXTIES):
            bag = bag_of(lots)
            for pin in places_of(lots):
                link = bag.link(pin)
                for bound in (-1, 0, (5, 33), 1, (7, 2), LONG_BOUNDS[0]):
                    found = bound_table(lots, pin, bound)
                    self.assert_fraction_rows(found)
                    self.assertEqual(exact_rows(found), link.bound_rows(exact(bound)))

    def test_bounds(self):
        for lots in SMALL:
            bag = bag_of(lots)
            for pin in places_of(lots):
                link = bag.link(pin)
                for bound in BOUNDS + ABOVE_1 + LONG_BOUNDS:
                    self.assertIs(is_bound(lots, pin, bound), link.has_bound(exact(bound)), (lots, pin, bound))

    def test_bounds_of_many_lots(self):
        for lots in (FORTY_PAIRS, FORTY_THREES, FORTY_FIVES, LONGS, SIXTIES):
            bag = bag_of(lots)
            for pin in places_of(lots)[:40:5]:
                link = bag.link(pin)
                for bound in (-1, (-1, 7), 0, (1, 10), 1, 2):
                    self.assertIs(is_bound(lots, pin, bound), link.has_bound(exact(bound)))

    def test_1_is_always_a_bound(self):
        for lots in ALL:
            for pin in places_of(lots):
                self.assertIs(is_bound(lots, pin, 1), True)
                self.assertIs(is_bound(lots, pin, (1, 1)), True)
                for bound in ABOVE_1:
                    self.assertIs(is_bound(lots, pin, bound), False)

    def test_below_the_least_bound(self):
        just_below = (-SIXTY - 1, SIXTY)
        for lots in (PAIR, ONE):
            pin = lots.lots[0][:-2]
            self.assertEqual([is_bound(lots, pin, -1), is_bound(lots, pin, just_below)], [True, False])
        third_less = as_pair(Fraction(-1, 3) - Fraction(1, LONG))
        self.assertEqual([is_bound(PAIRS, (), (-1, 3)), is_bound(PAIRS, (), third_less)], [True, False])


class NearTest(Checks):
    def test_near_bounds(self):
        for lots in SMALL:
            bag = bag_of(lots)
            for pin in places_of(lots):
                link = bag.link(pin)
                for halvings in (0, 1, 3, 7):
                    self.assert_near(link, near_bound(lots, pin, halvings), halvings)

    def test_near_bounds_of_many_lots(self):
        for lots in (FORTY_PAIRS, FORTY_THREES, FORTY_FIVES, LONGS, SIXTIES):
            bag = bag_of(lots)
            for pin in places_of(lots)[:60:9]:
                for halvings in (0, 30):
                    self.assert_near(bag.link(pin), near_bound(lots, pin, halvings), halvings)

    def assert_near(self, link, found, halvings):
        self.assert_fractions((found,))
        step = Fraction(1, 2 ** halvings)
        self.assertEqual(exact(found) % step, 0)
        self.assertTrue(-1 <= exact(found) <= 1)
        self.assertTrue(link.has_bound(exact(found)))
        self.assertTrue(exact(found) == -1 or not link.has_bound(exact(found) - step))

    def test_thirty_halvings(self):
        self.assertEqual(near_bound(PAIRS, (), 30), (-(2 ** 30 // 3), 2 ** 30))
        self.assertEqual([near_bound(PAIR, (), 30), near_bound(TWO, (), 30), near_bound(THREE, (1,), 30)],
                         [(-1, 1), (1, 1), (0, 1)])
        self.assertEqual(near_bound(HEAVY, (), 30), as_pair(Fraction(-(-5 * 2 ** 30 // 33), 2 ** 30)))

    def test_no_halvings(self):
        self.assertEqual([near_bound(PAIRS, (), 0), near_bound(PAIR, (), 0), near_bound(HEAVY, (), 0),
                          near_bound(TWO, (), 0)], [(0, 1), (-1, 1), (1, 1), (1, 1)])

    def test_stretches(self):
        for lots in SMALL:
            for pin in places_of(lots):
                for halvings in (0, 1, 5, 30):
                    low, high = value_stretch(lots, pin, halvings)
                    self.assertEqual(high, near_bound(lots, pin, halvings))
                    self.assert_fractions((low, high))
                    wanted = high if high == (-1, 1) else as_pair(exact(high) - Fraction(1, 2 ** halvings))
                    self.assertEqual(low, wanted)
        self.assertEqual([value_stretch(PAIR, (), 3), value_stretch(TWO, (), 0), value_stretch(PAIRS, (), 0)],
                         [((-1, 1), (-1, 1)), ((0, 1), (1, 1)), ((-1, 1), (0, 1))])


class RowTest(Checks):
    def test_low_rows(self):
        for lots in SMALL + (SIXTIES, FORTY_THREES):
            for pin in places_of(lots)[:12]:
                for bound in (-2, -1, (-1, 3), 0, (5, 34), (5, 33), (99, 100), 1):
                    found = low_row(lots, pin, bound)
                    self.assertEqual(found is None, is_bound(lots, pin, bound))
                    self.assertIs(is_low_row(lots, pin, bound, found), found is not None)
                    if found is not None:
                        self.assert_fractions(found)
                        self.assertGreater(exact(row_quotient_at(lots, pin, found)), exact(bound))

    def test_judged_low_rows(self):
        for lots in (PAIRS, THREE, HEAVY, CHAIN, TWO, HINGE, PAIR):
            for pin in places_of(lots):
                for row in uneven_rows(len(link_things(lots, pin))):
                    quotient = exact(row_quotient_at(lots, pin, row))
                    for bound in (-1, (-1, 3), 0, (1, 3), 1):
                        self.assertIs(is_low_row(lots, pin, bound, row), quotient > exact(bound))

    def test_what_is_no_low_row(self):
        no_rows = tuple(value for value in ODD_VALUES if repr(value) != "(1, 2, 3)") + (
            (0, 1), (0, 1, -1, 1), [0, 1, -1], (0, True, 1), (0, 1, None), (0, 1, (2, 4)), (0, 1, [1]), (1, 1, 1),
            (0, 0, 0), (2, (2, 1), 2), {0: 1}, PAIRS, (0, 1, 10 ** 60), (0, 1, PAIRS))
        self.each_judged(False, no_rows, lambda value: is_low_row(THREE, (1,), -1, value))
        self.each_judged(True, ((0, 1, -1), (0, (1, 2), 1), (1, 2, 3)), lambda value: is_low_row(THREE, (1,), -1, value))

    def test_quotients(self):
        for lots in SMALL + (SIXTIES, LONGS):
            bag = bag_of(lots)
            for pin in places_of(lots):
                link = bag.link(pin)
                for row in uneven_rows(len(link.things()))[:40]:
                    self.assertEqual(row_quotient_at(lots, pin, row), as_pair(self.quotient(link, exact_row(row))))

    def quotient(self, link, row):
        rows = link.pair_rows()
        sums = [sum(line) for line in rows]
        mean = sum(x * y for x, y in zip(sums, row)) / sum(sums)
        left = [y - mean for y in row]
        pairs = sum(rows[i][j] * left[i] * left[j] for i in range(len(row)) for j in range(len(row)))
        return pairs / sum(x * y * y for x, y in zip(sums, left))

    def test_quotients_at_the_edges(self):
        self.assertEqual([row_quotient_at(PAIR, (), (0, 1)), row_quotient_at(PAIR, (), (SIXTY, (LONG, LONG_BOTTOM)))],
                         [(-1, 1), (-1, 1)])
        self.assertEqual([row_quotient_at(TWO, (), (1, 1, 1, 0, 0, 0)), row_quotient_at(PAIRS, (), (1, 0, 0, (0, 1)))],
                         [(1, 1), (-1, 3)])

    def test_wrong_rows(self):
        no_rows = tuple(value for value in ODD_VALUES if repr(value) != "(1, 2, 3)") + (
            (0, 1), (0, 1, -1, 1), [0, 1, -1], (0, True, 1), (0, 1, None), (0, 1, (2, 4)), (0, 1, [1]), (1, 1, 1),
            (0, 0, 0), (2, (2, 1), 2), {0: 1}, PAIRS, (0, 1, 10 ** 60), (0, 1, PAIRS))
        self.each_raises(InvalidRow, no_rows, lambda value: row_quotient_at(THREE, (1,), value))

    def test_rows_at_pins_that_leave_one_thing(self):
        # A pin of the size d - 1 can have a right row; the size of the pin comes behind.
        self.raised(InvalidOperation, row_quotient_at, PAIRS, (0,), (0, 1, 2))
        self.raised(InvalidRow, row_quotient_at, PAIRS, (0,), (0, 1))
        self.raised(InvalidRow, row_quotient_at, PAIRS, (0,), (1, 1, 1))
        self.raised(InvalidOperation, row_quotient_at, SINGLES, (), (0, 1, 2, 3))
        self.raised(InvalidRow, row_quotient_at, SINGLES, (), (1, 1, 1, 1))
        for row in ((), (1,), (0, 1), ((1, 2),)):
            self.raised(InvalidRow, row_quotient_at, SINGLE, (), row)
            self.raised(InvalidRow, row_quotient_at, PAIR, (3,), row)

    def test_rows_at_lots(self):
        for row in ((), (1,), (0, 1), (0, 1, 2), None):
            self.raised(InvalidRow, row_quotient_at, PAIRS, (0, 1), row)
            self.raised(InvalidRow, row_quotient_at, SINGLE, (7,), row)


class RefusedTest(Checks):
    def test_wrong_lots(self):
        calls = [(call, ((), 0)) for call in NUMBER_CALLS + (near_bound, value_stretch)]
        calls += [(call, ("no pin", "no number")) for call in NUMBER_CALLS + (near_bound, value_stretch)]
        calls += [(is_low_row, ((), 0, (0, 1))), (is_low_row, ("no pin", "no number", None)),
                  (row_quotient_at, ((), (0, 1))), (row_quotient_at, ("no pin", None))]
        self.lots_are_refused_first(NO_LOTS, calls)

    def test_wrong_pins(self):
        for call in NUMBER_CALLS + (near_bound, value_stretch, row_quotient_at):
            self.each_raises(InvalidPin, NO_PINS, lambda value, call=call: call(PAIRS, value, "no number"))
        self.each_raises(InvalidPin, NO_PINS, lambda value: is_low_row(PAIRS, value, "no number", None))

    def test_wrong_numbers(self):
        for pin in ((), (0,), (0, 1)):
            for call in NUMBER_CALLS:
                self.each_refused_number(ODD_VALUES + (PAIRS,), lambda value, call=call: call(PAIRS, pin, value))
            self.each_refused_number(ODD_VALUES, lambda value: is_low_row(PAIRS, pin, value, None))

    def test_wrong_halvings(self):
        for pin in ((), (0,), (0, 1)):
            for call in (near_bound, value_stretch):
                self.each_refused_number(ODD_VALUES + (-1, 31, (3, 1), PAIRS),
                                         lambda value, call=call: call(PAIRS, pin, value))

    def test_too_great_pins(self):
        for lots in SMALL:
            for size in (lots.size - 1, lots.size):
                for pin in lots.pins(size):
                    for call in NUMBER_CALLS + (near_bound, value_stretch):
                        self.raised(InvalidOperation, call, lots, pin, 0)
                    self.raised(InvalidOperation, is_low_row, lots, pin, 0, None)

    def test_bounds_above_1_have_no_low_rows(self):
        for bound in ABOVE_1:
            self.raised(InvalidOperation, low_row, PAIRS, (), bound)
            self.raised(InvalidOperation, is_low_row, PAIRS, (), bound, (0, 1, 2, 3))
        self.assertEqual([low_row(PAIRS, (), 1), is_low_row(PAIRS, (), 1, (0, 1, 2, 3))], [None, False])


class PromisesTest(Checks):
    def test_the_row_of_ones(self):
        for lots in SMALL + (LONGS,):
            for pin in places_of(lots):
                for bound in (-3, 0, (1, 3), 1, 5):
                    table = bound_table(lots, pin, bound)
                    self.assertEqual(value_at(table, (1,) * len(table)), (0, 1))

    def test_numbers_above_a_bound(self):
        for lots in SMALL:
            for pin in places_of(lots):
                found = [is_bound(lots, pin, bound) for bound in sorted(BOUNDS, key=exact)]
                self.assertEqual(found, sorted(found))

    def test_bounds_are_told_by_the_table(self):
        for lots in (PAIRS, THREE, HEAVY, CHAIN, TWO, HINGE, SIXTIES):
            for pin in places_of(lots):
                for bound in BOUNDS:
                    self.assertEqual(is_bound(lots, pin, bound), has_no_minus(bound_table(lots, pin, bound)))

    def test_quotients_and_values(self):
        for lots in (PAIRS, THREE, HEAVY, CHAIN, TWO, HINGE):
            for pin in places_of(lots):
                for row in uneven_rows(len(link_things(lots, pin))):
                    quotient = exact(row_quotient_at(lots, pin, row))
                    self.assertLessEqual(quotient, exact(near_bound(lots, pin, 20)))
                    for bound in (-1, (-1, 3), 0, 1):
                        value = value_at(bound_table(lots, pin, bound), row)
                        self.assertEqual(quotient > exact(bound), value[0] < 0)

    def test_at_least(self):
        for lots in ALL:
            for pin in places_of(lots):
                things = link_things(lots, pin)
                pairs = pair_weights(lots, pin)
                many = len(things)
                least = (-1, many - 1)
                even = len(pairs) == many * (many - 1) // 2 and len(set(pairs.values())) == 1
                self.assertEqual(is_bound(lots, pin, least), even)
                self.assertFalse(is_bound(lots, pin, as_pair(exact(least) - Fraction(1, 10 ** 40))))

    def test_0_is_a_bound_with_one_plus(self):
        for lots in SMALL + (SIXTIES, FORTY_THREES):
            for pin in places_of(lots):
                things = link_things(lots, pin)
                pairs = pair_weights(lots, pin)
                table = tuple(tuple(pairs.get((min(x, y), max(x, y)), 0) for y in things) for x in things)
                self.assertEqual(is_bound(lots, pin, 0), type_of(table)[0] == 1)

    def test_1_is_the_least_bound_exactly_if_the_walk_falls_apart(self):
        for lots in SMALL:
            for pin in places_of(lots):
                self.assertEqual(is_bound(lots, pin, (10 ** 30 - 1, 10 ** 30)), hangs_together(lots, pin))

    def test_more_halvings(self):
        for lots in (PAIRS, THREE, HEAVY, CHAIN, TWO, HINGE, SIXTIES):
            for pin in places_of(lots):
                found = [exact(near_bound(lots, pin, halvings)) for halvings in range(12)]
                self.assertEqual(found, sorted(found, reverse=True))

    def test_one_number_for_all_weights(self):
        for lots in SMALL:
            other = scaled_to(lots, (LONG_BOTTOM, LONG))
            for pin in places_of(lots):
                self.assertEqual(near_bound(lots, pin, 9), near_bound(other, pin, 9))

    def test_the_numbers_of_lots_do_not_tell(self):
        self.assertEqual(PAIRS.lots, HEAVY.lots)
        self.assertNotEqual(near_bound(PAIRS, (), 4), near_bound(HEAVY, (), 4))

    def test_pairs_of_all_things_with_a_second_value_above_0(self):
        self.assertEqual(len(pair_weights(HEAVY, ())), 6)
        self.assertFalse(is_bound(HEAVY, (), 0))
        self.assertEqual(masses(HEAVY, ())[2], (11, 1))

    def test_signs(self):
        lots = Lots({(0, 1): 1, (1, 2): 1, (2, 3): 1, (0, 3): 1})
        self.assertEqual([near_bound(lots, (), 3), near_bound(CHAIN, (), 0)], [(0, 1), (1, 1)])
