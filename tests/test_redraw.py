"""The promises [8.1] to [8.6], and the functions of pinnedgaps.going.redraw."""

from fractions import Fraction

from pinnedgaps.bags.lots import Lots, scaled_to
from pinnedgaps.base.tables import has_no_minus
from pinnedgaps.errors import InvalidOperation, InvalidPin
from pinnedgaps.going import redraw as module
from pinnedgaps.going.redraw import (
    draw_table, grow_trace, grow_walk, holding_chance, leave_table, moved, redraw_walk, walk_parts, walk_trace)
from tests.bags import (
    ALL, CHAIN, FIVES, FORTY_FIVES, FORTY_FOURS, FORTY_PAIRS, FORTY_THREES, HEAVY, HINGE, LONGS, NO_LOTS, NO_PINS, ONE,
    PAIR, PAIRS, SINGLE, SINGLES, SIXTIES, SMALL, THREE, TWO, bag_of)
from tests.checks import Checks
from tests.exact import as_pair, as_pairs, exact, exact_row, exact_rows, row_products, trace_of
from tests.examples import run_examples
from tests.samples import LONG, LONG_BOTTOM, ODD_VALUES, SIXTY

EXAMPLES = """
>>> [leave_table(THREE)[0], draw_table(THREE)[0], redraw_walk(THREE), walk_parts(THREE) == (THREE.lots,)]
[((1, 3), (1, 3), (0, 1), (1, 3), (0, 1), (0, 1)), ((1, 2), (1, 2), (0, 1)), (((2, 3), (1, 6), (1, 6)), ((1, 6), (2, 3), (1, 6)), ((1, 6), (1, 6), (2, 3))), True]
>>> TWO = Lots({(0, 1): 1, (0, 2): 3, (4, 5): 2})
>>> [redraw_walk(TWO), walk_parts(TWO), holding_chance(TWO, (0, 2)), grow_walk(TWO)[0], moved(TWO, (1, 0, 0)), moved(TWO, (0, -1, (1, 2)))]
[(((5, 8), (3, 8), (0, 1)), ((1, 8), (7, 8), (0, 1)), ((0, 1), (0, 1), (1, 1))), (((0, 1), (0, 2)), ((4, 5),)), (7, 8), ((1, 2), (1, 8), (3, 8), (0, 1), (0, 1)), ((5, 8), (3, 8), (0, 1)), ((-1, 8), (-7, 8), (1, 2))]
>>> [walk_trace(TWO, 1), grow_trace(TWO, 1), walk_trace(TWO, 2), grow_trace(TWO, 2), walk_trace(TWO, 0), grow_trace(TWO, 0), redraw_walk(Lots({(3,): 1, (4,): 2}))]
[(5, 2), (5, 2), (9, 4), (9, 4), (3, 1), (5, 1), (((1, 3), (2, 3)), ((1, 3), (2, 3)))]
>>> moved(TWO, (1, 0))
raises InvalidOperation
"""

MANY_PINS = (FORTY_FOURS, FORTY_FIVES)


def few_pins(lots):
    return len(lots.pins(lots.size - 1)) <= 40


class ExamplesTest(Checks):
    def test_examples(self):
        run_examples(self, ["pinnedgaps.bags.lots", "pinnedgaps.going.redraw"], EXAMPLES)

    def test_constants(self):
        self.assertEqual(module.MOST_PINS, 40)


class TableTest(Checks):
    def test_both_halves(self):
        for lots in ALL:
            bag = bag_of(lots)
            leave, draw = leave_table(lots), draw_table(lots)
            self.assert_fraction_rows(leave)
            self.assert_fraction_rows(draw)
            self.assertEqual([exact_rows(leave), exact_rows(draw)], [bag.leave_rows(), bag.draw_rows()])

    def test_both_walks(self):
        for lots in ALL:
            bag = bag_of(lots)
            walk = redraw_walk(lots)
            self.assert_fraction_rows(walk)
            self.assertEqual(exact_rows(walk), bag.redraw_rows())
            if few_pins(lots):
                self.assert_fraction_rows(grow_walk(lots))
                self.assertEqual(exact_rows(grow_walk(lots)), bag.grow_rows())

    def test_each_row_adds_up_to_1(self):
        for lots in ALL:
            tables = [leave_table(lots), draw_table(lots), redraw_walk(lots)]
            for table in tables + ([grow_walk(lots)] if few_pins(lots) else []):
                self.assertEqual({sum(row) for row in exact_rows(table)}, {1})

    def test_one_lot(self):
        for lots in (SINGLE, PAIR, ONE):
            self.assertEqual([redraw_walk(lots), walk_parts(lots), holding_chance(lots, lots.lots[0])],
                             [(((1, 1),),), (lots.lots,), (1, 1)])
            self.assertEqual(leave_table(lots), (((1, lots.size),) * lots.size,))
            self.assertEqual(draw_table(lots), (((1, 1),),) * lots.size)
            self.assertEqual(grow_walk(lots), (((1, lots.size),) * lots.size,) * lots.size)

    def test_one_thing(self):
        shares = tuple(SINGLES.share_of(lot) for lot in SINGLES.lots)
        self.assertEqual([redraw_walk(SINGLES), grow_walk(SINGLES), draw_table(SINGLES), leave_table(SINGLES)],
                         [(shares,) * 4, (((1, 1),),), (shares,), (((1, 1),),) * 4])

    def test_too_many_pins(self):
        for lots in MANY_PINS:
            self.assertGreater(len(lots.pins(lots.size - 1)), 40)
            self.too_many(40, grow_walk, lots)
            for steps in (0, 1, 12):
                self.too_many(40, grow_trace, lots, steps)
            self.assertEqual([len(leave_table(lots)), len(draw_table(lots)[0]), len(redraw_walk(lots))], [40, 40, 40])

    def test_forty_pins(self):
        lots, more = Lots.even(FORTY_FOURS.lots[:30:2]), Lots.even(FORTY_FOURS.lots[:32:2])
        self.assertEqual([len(lots.pins(3)), len(more.pins(3))], [40, 41])
        self.assertEqual(exact_rows(grow_walk(lots)), bag_of(lots).grow_rows())
        self.assertEqual([grow_trace(lots, 0), grow_trace(lots, 1), walk_trace(lots, 1)], [(40, 1), (10, 1), (10, 1)])
        self.too_many(40, grow_walk, more)
        self.too_many(40, grow_trace, more, 0)

    def test_holding_chances(self):
        for lots in ALL:
            rows = redraw_walk(lots)
            self.assertEqual([holding_chance(lots, lot) for lot in lots.lots],
                             [rows[at][at] for at in range(len(lots))])

    def test_wrong_lots_to_hold(self):
        self.each_raises(InvalidPin, NO_PINS + ((), (0,), (2, 4), (0, 1, 2)), lambda value: holding_chance(PAIRS, value))


class MovedTest(Checks):
    def test_moved(self):
        for lots in SMALL + (LONGS, FORTY_THREES):
            rows = bag_of(lots).redraw_rows()
            many = len(lots)
            for chances in ((0,) * many, (1,) + (0,) * (many - 1), tuple(range(many)),
                            tuple(((-1) ** at * at, 2 * at + 1) if at % 3 == 1 else -at for at in range(many))):
                chances = tuple(as_pair(exact(chance)) for chance in chances)
                found = moved(lots, chances)
                self.assert_fractions(found)
                self.assertEqual([exact_row(found)], row_products([exact_row(chances)], rows))

    def test_integers_and_long_numbers(self):
        self.assertEqual(moved(PAIR, (SIXTY,)), ((SIXTY, 1),))
        self.assertEqual(moved(SINGLE, ((LONG, LONG_BOTTOM),)), ((LONG, LONG_BOTTOM),))
        self.assertEqual(moved(SINGLES, (0, 0, 0, 1)), redraw_walk(SINGLES)[0])

    def test_shares_stay(self):
        for lots in SMALL + (SIXTIES, FORTY_FIVES):
            shares = tuple(lots.share_of(lot) for lot in lots.lots)
            self.assertEqual(moved(lots, shares), shares)

    def test_wrong_chances(self):
        self.each_raises(InvalidOperation, tuple(value for value in ODD_VALUES if repr(value) != "(1, 2, 3)") + (
            (1, 0), (1, 0, 0, 0), [1, 0, 0], (1, True, 0), (1, 0, None), (1, 0, (2, 4)), (1, 0, [1]), {0: 1}, THREE,
            (1, 0, 10 ** 60), (1, 0, THREE), (1, 0, "0")), lambda value: moved(THREE, value))


class TraceTest(Checks):
    def test_traces(self):
        for lots in SMALL + (LONGS,):
            walk = bag_of(lots).redraw_rows()
            for steps in (0, 1, 2, 3, 7):
                self.assertEqual(walk_trace(lots, steps), as_pair(Fraction(trace_of(walk, steps))))
                wanted = walk_trace(lots, steps) if steps else (len(lots.pins(lots.size - 1)), 1)
                self.assertEqual(grow_trace(lots, steps), wanted)
                self.assert_fractions((walk_trace(lots, steps), grow_trace(lots, steps)))

    def test_traces_of_both_walks(self):
        for lots in SMALL:
            grow = bag_of(lots).grow_rows()
            for steps in (0, 1, 2, 5):
                self.assertEqual(grow_trace(lots, steps), as_pair(Fraction(trace_of(grow, steps))))

    def test_twelve_steps(self):
        for lots in (PAIRS, THREE, TWO, HEAVY, HINGE, SINGLES, ONE):
            bag = bag_of(lots)
            self.assertEqual(walk_trace(lots, 12), as_pair(trace_of(bag.redraw_rows(), 12)))
            self.assertEqual(grow_trace(lots, 12), as_pair(trace_of(bag.grow_rows(), 12)))

    def test_forty_lots(self):
        for lots in (FORTY_PAIRS, FORTY_THREES, FORTY_FOURS):
            rows = bag_of(lots).redraw_rows()
            self.assertEqual(walk_trace(lots, 2), as_pair(trace_of(rows, 2)))
            traces = [exact(walk_trace(lots, steps)) for steps in (0, 1, 2, 11, 12)]
            self.assertEqual(traces[0], len(lots))
            self.assertTrue(all(x > y > 1 for x, y in zip(traces, traces[1:])))

    def test_wrong_steps(self):
        for call in (walk_trace, grow_trace):
            for lots in (PAIRS, SINGLE, FORTY_FIVES):
                self.each_refused_number(ODD_VALUES + (-1, 13, (1, 1), PAIRS),
                                         lambda value, call=call: call(lots, value))


class PartsTest(Checks):
    def test_parts(self):
        for lots in ALL:
            rows = redraw_walk(lots)
            names = list(lots.lots)
            parts = walk_parts(lots)
            self.assertEqual([sorted(lot for part in parts for lot in part), list(parts)], [names, sorted(parts)])
            for part in parts:
                reached = {names.index(part[0])}
                for _ in part:
                    reached |= {j for i in reached for j in range(len(names)) if rows[i][j] != (0, 1)}
                self.assertEqual(tuple(names[at] for at in sorted(reached)), part)

    def test_samples(self):
        apart = Lots.even(((0, 1, 2), (0, 1, 3), (0, 4, 5), (0, 4, 6), (5, 6, 7)))
        self.assertEqual(walk_parts(apart), (((0, 1, 2), (0, 1, 3)), ((0, 4, 5), (0, 4, 6)), ((5, 6, 7),)))
        self.assertEqual(walk_parts(SINGLES), (SINGLES.lots,))
        self.assertEqual(walk_parts(CHAIN), (CHAIN.lots,))


class RefusedTest(Checks):
    def test_wrong_lots(self):
        calls = [(call, ()) for call in (leave_table, draw_table, redraw_walk, grow_walk, walk_parts)]
        for call in (moved, walk_trace, grow_trace, holding_chance):
            calls += [(call, (0,)), (call, (None,))]
        self.lots_are_refused_first(NO_LOTS, calls)


class PromisesTest(Checks):
    def test_the_walks_are_made_of_their_halves(self):
        for lots in SMALL + (SIXTIES, FIVES):
            leave, draw = exact_rows(leave_table(lots)), exact_rows(draw_table(lots))
            self.assertEqual(exact_rows(redraw_walk(lots)), row_products(leave, draw))
            self.assertEqual(exact_rows(grow_walk(lots)), row_products(draw, leave))

    def test_balance(self):
        for lots in SMALL + (SIXTIES, FIVES):
            weights = [exact(lots.weights[lot]) for lot in lots.lots]
            pins = [exact(lots.weight_of(pin)) for pin in lots.pins(lots.size - 1)]
            self.assert_balanced(exact_rows(redraw_walk(lots)), weights)
            self.assert_balanced(exact_rows(grow_walk(lots)), pins)
            leave, draw = exact_rows(leave_table(lots)), exact_rows(draw_table(lots))
            for i, weight in enumerate(weights):
                for j, pin in enumerate(pins):
                    if leave[i][j]:
                        self.assertEqual(weight / lots.size, weight * leave[i][j])
                    self.assertEqual(weight * leave[i][j] * lots.size, pin * draw[j][i])

    def assert_balanced(self, rows, weights):
        for i, row in enumerate(rows):
            for j, chance in enumerate(row):
                self.assertEqual(weights[i] * chance, weights[j] * rows[j][i])

    def test_no_minus(self):
        for lots in SMALL + (LONGS, FORTY_THREES):
            weights = [exact(lots.weights[lot]) for lot in lots.lots]
            rows = exact_rows(redraw_walk(lots))
            self.assertTrue(has_no_minus(tuple(as_pairs(weight * x for x in row) for weight, row in zip(weights, rows))))
            pins = [exact(lots.weight_of(pin)) for pin in lots.pins(lots.size - 1)]
            rows = exact_rows(grow_walk(lots))
            self.assertTrue(has_no_minus(tuple(as_pairs(weight * x for x in row) for weight, row in zip(pins, rows))))

    def test_chances_come_to_the_shares(self):
        for lots in (PAIRS, THREE, HEAVY, CHAIN, SINGLES, ONE):
            self.assertEqual(len(walk_parts(lots)), 1)
            shares = [exact(lots.share_of(lot)) for lot in lots.lots]
            self.assertLess(self.distance(lots, shares), Fraction(1, 1000))
        for lots in (TWO, Lots({(0, 1): 1, (0, 2): 3, (4, 5): 2})):
            self.assertGreater(len(walk_parts(lots)), 1)
            shares = [exact(lots.share_of(lot)) for lot in lots.lots]
            self.assertGreater(self.distance(lots, shares), Fraction(1, 10))

    def distance(self, lots, shares):
        """The greatest difference of chances and shares after many steps."""
        rows = exact_rows(redraw_walk(lots))
        for _ in range(7):
            rows = [[Fraction(round(x * 10 ** 30), 10 ** 30) for x in row] for row in row_products(rows, rows)]
        return max(abs(x - share) for row in rows for x, share in zip(row, shares))

    def test_the_walk_can_stay_everywhere(self):
        for lots in ALL:
            self.assertTrue(all(holding_chance(lots, lot)[0] > 0 for lot in lots.lots))

    def test_one_number_for_all_weights(self):
        for lots in SMALL:
            self.assertEqual(redraw_walk(lots), redraw_walk(scaled_to(lots, (LONG, LONG_BOTTOM))))

    def test_the_walk_does_not_stay_with_one_chance(self):
        self.assertEqual([holding_chance(CHAIN, (0, 1)), holding_chance(CHAIN, (1, 2))], [(7, 12), (5, 6)])

    def test_chances_back_are_other_ones(self):
        rows = redraw_walk(CHAIN)
        self.assertEqual([rows[0][1], rows[1][0]], [(5, 12), (1, 12)])
