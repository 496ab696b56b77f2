"""The promises [7.1] to [7.6], and the functions of pinnedgaps.nearby.trickle."""

from fractions import Fraction

from pinnedgaps.bags.lots import Lots, scaled_to
from pinnedgaps.bags.rows import is_even
from pinnedgaps.errors import InvalidOperation, Refused
from pinnedgaps.nearby import trickle as module
from pinnedgaps.nearby.bounds import is_bound, near_bound
from pinnedgaps.nearby.local import hangs_together
from pinnedgaps.nearby.trickle import (
    apart_pin, are_level_bounds, level_bound, level_bounds, trickle_bounds, trickle_row, trickled, worst_pin)
from tests.bags import (
    ALL, CHAIN, FIVES, FORTY_FIVES, FORTY_FOURS, FORTY_PAIRS, FORTY_THREES, FOURS, HEAVY, HINGE, LONGS, NO_LOTS, ONE,
    PAIR, PAIRS, SINGLE, SINGLES, SIXTIES, SMALL, THREE, TWO, UNLIKE)
from tests.checks import Checks
from tests.exact import as_pair, exact
from tests.examples import run_examples
from tests.samples import LONG, ODD_VALUES, SIXTY

EXAMPLES = """
>>> [level_bounds(PAIRS, 4), level_bounds(THREE, 2), level_bound(THREE, 1, 6), worst_pin(THREE, 1, 2), apart_pin(THREE), trickle_bounds(THREE, 6)]
[((-5, 16),), ((-1, 4), (0, 1)), (0, 1), (1,), None, ((0, 1), (0, 1))]
>>> FIVE = Lots.all_of(5, 3)
>>> [level_bounds(FIVE, 6), trickle_bounds(FIVE, 6), are_level_bounds(FIVE, ((-1, 4), (-1, 3))), are_level_bounds(FIVE, ((-1, 3), (-1, 3))), level_bounds(Lots.all_of(3, 1), 4)]
[((-1, 4), (-21, 64)), ((-21, 85), (-21, 64)), True, False, ()]
>>> HEAVY = Lots({(0, 1, 2): 1, (0, 1, 3): 2, (0, 2, 3): 1, (1, 2, 3): 1, (2, 3, 4): 3})
>>> [level_bounds(HEAVY, 4), trickle_bounds(HEAVY, 4), trickled((1, 4)), trickled((-1, 2)), trickle_row((1, 5), 5)]
[((1, 4), (1, 2)), ((1, 1), (1, 2)), (1, 3), (-1, 3), ((1, 5), (1, 4), (1, 3), (1, 2), (1, 1), (1, 1))]
>>> trickle_bounds(Lots({(0, 1, 2): 1, (3, 4, 5): 1}), 4)
raises Refused(('apart', ()))
"""

# Numbers below 1.
BELOW_1 = (-7, -1, (-1, 2), (-1, 3), (-1, 1000), 0, (0, 1), (1, 1000), (1, 7), (1, 5), (1, 3), (2, 5), (1, 2),
           (2, 3), (99, 100), (SIXTY - 1, SIXTY), (-LONG, 3), (1, LONG), (LONG - 1, LONG), -SIXTY)
FROM_1 = (1, (1, 1), 2, (3, 2), (LONG + 1, LONG), SIXTY)
# All local walks of these hang together.
WHOLE = (PAIRS, THREE, HEAVY, CHAIN, ONE, PAIR, SINGLE, SINGLES, FOURS, FIVES, SIXTIES, FORTY_PAIRS, FORTY_THREES,
         FORTY_FOURS)


def once_trickled(number):
    """The words of [7.2]."""
    return min(Fraction(1), number / (1 - number)) if number < 1 else Fraction(1)


class ExamplesTest(Checks):
    def test_examples(self):
        run_examples(self, ["pinnedgaps.bags.lots", "pinnedgaps.nearby.trickle"], EXAMPLES)

    def test_constants(self):
        self.assertEqual(module.MOST_STEPS, 8)


class LevelTest(Checks):
    def test_level_bounds(self):
        for lots in ALL:
            for halvings in (0, 3):
                bounds = level_bounds(lots, halvings)
                self.assertEqual(len(bounds), lots.size - 1)
                self.assert_fractions(bounds)
                for size, bound in enumerate(bounds):
                    near = {pin: exact(near_bound(lots, pin, halvings)) for pin in lots.pins(size)}
                    self.assertEqual(exact(bound), max(near.values()))
                    self.assertEqual(level_bound(lots, size, halvings), bound)
                    self.assertEqual(worst_pin(lots, size, halvings),
                                     min(pin for pin in near if near[pin] == exact(bound)))

    def test_thirty_halvings(self):
        self.assertEqual(level_bounds(PAIRS, 30), ((-(2 ** 30 // 3), 2 ** 30),))
        # Of d - k things the second value is -1 / (d - k - 1), if there is one lot.
        self.assertEqual(level_bounds(ONE, 30), ((-1, 4), (-(2 ** 30 // 3), 2 ** 30), (-1, 2), (-1, 1)))
        for lots in (FORTY_FOURS, FORTY_FIVES):
            found = level_bounds(lots, 30)
            self.assertTrue(are_level_bounds(lots, found))
            self.assertEqual(found, tuple(level_bound(lots, size, 30) for size in range(lots.size - 1)))

    def test_no_levels(self):
        for lots in (SINGLE, SINGLES):
            self.assertEqual([level_bounds(lots, 0), trickle_bounds(lots, 30), apart_pin(lots)], [(), (), None])
            self.assertIs(are_level_bounds(lots, ()), True)

    def test_more_than_forty_pins(self):
        self.assertGreater(len(FORTY_FIVES.pins(3)), 40)
        worst = worst_pin(FORTY_FIVES, 3, 6)
        self.assertEqual(near_bound(FORTY_FIVES, worst, 6), level_bound(FORTY_FIVES, 3, 6))

    def test_judged_level_bounds(self):
        for lots in SMALL + (FIVES, SIXTIES, FORTY_FOURS):
            bounds = level_bounds(lots, 5)
            self.assertIs(are_level_bounds(lots, bounds), True)
            self.assertIs(are_level_bounds(lots, (1,) * len(bounds)), True)
            for at, bound in enumerate(bounds):
                lower = as_pair(exact(bound) - Fraction(1, 32))
                self.assertIs(are_level_bounds(lots, bounds[:at] + (lower,) + bounds[at + 1:]), bound == (-1, 1) and
                              all(is_bound(lots, pin, lower) for pin in lots.pins(at)))
                self.assertIs(are_level_bounds(lots, bounds[:at] + ((33, 32),) + bounds[at + 1:]), False)

    def test_what_is_no_tuple_of_level_bounds(self):
        self.each_judged(False, ODD_VALUES + (
            (1, 1), (1, 1, 1, 1), [1, 1, 1], (True, 1, 1), (1, 1, None), (1, 1, (2, 2)), (1, 1, "1"), (1, 1, [1]),
            (1, 1, 2), (2, 1, 1), {0: 1}, PAIRS, 1, (1, 1, 10 ** 60), (1, 1, PAIRS)),
            lambda value: are_level_bounds(FOURS, value))
        self.assertIs(are_level_bounds(FOURS, (1, (1, 1), 1)), True)
        self.each_judged(False, (None, 1, (1,), (0, 1)), lambda value: are_level_bounds(SINGLE, value))


class ApartTest(Checks):
    def test_apart_pins(self):
        for lots in ALL:
            apart = [pin for size in range(lots.size - 1) for pin in lots.pins(size) if not hangs_together(lots, pin)]
            self.assertEqual(apart_pin(lots), apart[0] if apart else None)

    def test_samples(self):
        self.assertEqual([apart_pin(TWO), apart_pin(HINGE), apart_pin(PAIRS), apart_pin(Lots({(0, 1): 1, (2, 3): 1}))],
                         [(), (0,), None, ()])
        # Apart at (6,), (0, 1) and (4, 5): the smaller pin is the least one, though (0, 1) is ahead in Python's order.
        lots = Lots.even(((0, 1, 2, 3), (0, 1, 4, 5), (0, 2, 3, 6), (4, 5, 6, 7)))
        apart = [pin for size in range(3) for pin in lots.pins(size) if not hangs_together(lots, pin)]
        self.assertIn((0, 1), apart)
        self.assertEqual(apart_pin(lots), min(apart, key=lambda pin: (len(pin), pin)))
        self.assertEqual(len(apart_pin(lots)), 1)

    def test_levels_that_fall_apart_have_the_bound_1(self):
        for lots, size in ((TWO, 0), (HINGE, 1)):
            for halvings in (0, 5, 30):
                self.assertEqual(level_bound(lots, size, halvings), (1, 1))
        self.assertEqual([worst_pin(TWO, 0, 9), worst_pin(HINGE, 1, 9)], [(), (0,)])


class TrickledTest(Checks):
    def test_trickled(self):
        for number in BELOW_1:
            self.assertEqual(trickled(number), as_pair(once_trickled(exact(number))))
            self.assert_fractions((trickled(number),))
        self.assertEqual([trickled((1, 2)), trickled(0), trickled(-1), trickled((1, 3))],
                         [(1, 1), (0, 1), (-1, 2), (1, 2)])

    def test_rows(self):
        for number in BELOW_1:
            for steps in range(9):
                row = [exact(number)]
                for _ in range(steps):
                    row.append(once_trickled(row[-1]))
                self.assertEqual(trickle_row(number, steps), tuple(map(as_pair, row)))
        self.assertEqual([trickle_row(1, 0), trickle_row((1, 1), 8), trickle_row(0, 2)],
                         [((1, 1),), ((1, 1),) * 9, ((0, 1),) * 3])

    def test_numbers_of_steps(self):
        for number in BELOW_1:
            value = exact(number)
            for steps, found in enumerate(trickle_row(number, 8)):
                if steps * value < 1 and value / (1 - steps * value) <= 1:
                    self.assertEqual(exact(found), value / (1 - steps * value))
                else:
                    self.assertEqual(found, (1, 1))
            if value < 0:
                row = [exact(found) for found in trickle_row(number, 8)]
                self.assertTrue(all(low < high < 0 for low, high in zip(row, row[1:])))
            if value >= Fraction(1, 2):
                self.assertEqual(trickle_row(number, 1)[1], (1, 1))

    def test_wrong_numbers(self):
        self.each_refused_number(ODD_VALUES + (PAIRS,), trickled)
        self.each_refused_number(ODD_VALUES + (PAIRS,), lambda value: trickle_row(value, 1))
        self.each_refused_number(ODD_VALUES, lambda value: trickle_row(value, "no number"))

    def test_wrong_steps(self):
        for number in (0, 1, 2):
            self.each_refused_number(ODD_VALUES + (-1, 9, (1, 1), PAIRS), lambda value: trickle_row(number, value))

    def test_numbers_that_do_not_trickle(self):
        for number in FROM_1:
            self.raised(InvalidOperation, trickled, number)
            if exact(number) > 1:
                self.raised(InvalidOperation, trickle_row, number, 0)
                self.raised(InvalidOperation, trickle_row, number, 8)


class TrickleBoundsTest(Checks):
    def test_trickle_bounds(self):
        for lots in WHOLE:
            for halvings in (0, 4, 12):
                found = trickle_bounds(lots, halvings)
                self.assert_fractions(found)
                self.assertEqual(len(found), lots.size - 1)
                if found:
                    self.assertEqual(found[-1], level_bound(lots, lots.size - 2, halvings))
                for low, high in zip(found, found[1:]):
                    self.assertEqual(exact(low), once_trickled(exact(high)))

    def test_1_stays(self):
        # Without halvings the near bound of a walk that hangs together can be 1.
        self.assertEqual([trickle_bounds(CHAIN, 0), level_bounds(CHAIN, 0), apart_pin(CHAIN)], [((1, 1),), ((1, 1),), None])
        self.assertEqual(trickle_bounds(FORTY_THREES, 0), ((1, 1), (1, 1)))

    def test_lots_that_fall_apart(self):
        for lots in (TWO, HINGE, Lots({(0, 1): 1, (2, 3): 1})):
            for halvings in (0, 30):
                self.assertEqual(self.raised(Refused, trickle_bounds, lots, halvings).reason, ("apart", apart_pin(lots)))


class RefusedTest(Checks):
    def test_wrong_lots(self):
        self.lots_are_refused_first(NO_LOTS, (
            (level_bound, (0, 0)), (level_bound, ("a", "b")), (worst_pin, (0, 0)), (worst_pin, ("a", "b")),
            (level_bounds, (0,)), (level_bounds, ("a",)), (are_level_bounds, ((0,),)), (are_level_bounds, (None,)),
            (apart_pin, ()), (trickle_bounds, (0,)), (trickle_bounds, ("a",))))

    def test_wrong_sizes(self):
        for call in (level_bound, worst_pin):
            for lots in (PAIRS, THREE, SINGLE, ONE):
                sizes = ODD_VALUES + (-1, lots.size - 1, lots.size, 9, (0, 1), PAIRS)
                self.each_refused_number(sizes, lambda value, call=call: call(lots, value, 0))
                self.each_refused_number(sizes, lambda value, call=call: call(lots, value, "no number"))

    def test_wrong_halvings(self):
        wrong = ODD_VALUES + (-1, 31, (1, 1), PAIRS)
        for call in (level_bound, worst_pin):
            self.each_refused_number(wrong, lambda value, call=call: call(PAIRS, 0, value))
        for lots in (PAIRS, SINGLE, TWO):
            for call in (level_bounds, trickle_bounds):
                self.each_refused_number(wrong, lambda value, call=call: call(lots, value))


class PromisesTest(Checks):
    def test_level_bounds_are_bounds_of_all(self):
        for lots in SMALL + (SIXTIES, LONGS):
            for size, bound in enumerate(level_bounds(lots, 3)):
                self.assertTrue(all(is_bound(lots, pin, bound) for pin in lots.pins(size)))

    def test_more_halvings(self):
        for lots in (PAIRS, THREE, HEAVY, UNLIKE, FOURS):
            rows = [list(map(exact, level_bounds(lots, halvings))) for halvings in range(8)]
            for row, later in zip(rows, rows[1:]):
                self.assertTrue(all(x >= y for x, y in zip(row, later)))

    def test_bounds_trickle_down(self):
        for lots in SMALL + (FIVES, SIXTIES, FORTY_FOURS):
            for size, bound in list(enumerate(level_bounds(lots, 8)))[1:]:
                below = lots.pins(size - 1)
                if bound != (1, 1) and all(hangs_together(lots, pin) for pin in below):
                    self.assertTrue(all(is_bound(lots, pin, trickled(bound)) for pin in below))

    def test_trickle_bounds_are_bounds(self):
        for lots in WHOLE:
            self.assertTrue(are_level_bounds(lots, trickle_bounds(lots, 6)))

    def test_one_number_for_all_weights(self):
        for lots in SMALL:
            self.assertEqual(level_bounds(lots, 5), level_bounds(scaled_to(lots, (1, SIXTY)), 5))

    def test_trickle_bounds_can_be_above_level_bounds(self):
        lots = Lots.all_of(5, 3)
        self.assertGreater(exact(trickle_bounds(lots, 6)[0]), exact(level_bounds(lots, 6)[0]))

    def test_level_bounds_neither_always_grow_nor_fall(self):
        five = level_bounds(Lots.all_of(5, 3), 6)
        three = level_bounds(THREE, 6)
        self.assertTrue(is_even(THREE))
        self.assertGreater(exact(five[0]), exact(five[1]))
        self.assertLess(exact(three[0]), exact(three[1]))
