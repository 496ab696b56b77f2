"""The promises [17.1] to [17.6], and the functions of pinnedgaps.going.steps."""

from fractions import Fraction

from pinnedgaps.bags.lots import Lots, scaled_to
from pinnedgaps.errors import InvalidLots, InvalidNumber, InvalidOperation, InvalidPin, InvalidRow
from pinnedgaps.going import steps as module
from pinnedgaps.going.gaps import flow_of, is_gap, local_gap, near_gap
from pinnedgaps.going.redraw import redraw_walk
from pinnedgaps.going.steps import (
    distance_after, led_values, left_variance, mean_of, shares_after, steps_enough, variance)
from tests.bags import (
    ALL, CHAIN, FIVES, FORTY_FIVES, FORTY_PAIRS, FORTY_THREES, HEAVY, LONGS, NO_LOTS, NO_PINS, ONE, PAIR, PAIRS,
    SINGLE, SINGLES, SIXTIES, SMALL, THREE, TWO, UNLIKE, bag_of)
from tests.checks import Checks
from tests.exact import as_pair, as_pairs, exact, exact_row
from tests.examples import run_examples
from tests.samples import LONG, LONG_BOTTOM, ODD_VALUES, SIXTY
from tests.webs import RING

EXAMPLES = """
>>> [shares_after(PAIRS, (0, 1), 1), shares_after(PAIRS, (0, 1), 2)[0], [distance_after(PAIRS, (0, 1), steps) for steps in (0, 1, 2)], shares_after(THREE, (0, 1, 2), 1)]
[((1, 3), (1, 6), (1, 6), (1, 6), (1, 6), (0, 1)), (2, 9), [(5, 1), (1, 3), (1, 27)], ((2, 3), (1, 6), (1, 6))]
>>> [mean_of(PAIRS, (0, 1, 2, 3, 4, 5)), variance(PAIRS, (0, 1, 2, 3, 4, 5)), left_variance(PAIRS, (0, 1, 2, 3, 4, 5)), variance(THREE, (1, 0, 0)), left_variance(THREE, (1, 0, 0)), led_values(THREE, (1, 0, 0))]
[(5, 2), (35, 12), (35, 18), (2, 9), (1, 9), ((2, 3), (1, 6), (1, 6))]
>>> [steps_enough(THREE, (1, 2), (0, 1, 2), (1, 100)), steps_enough(THREE, (1, 2), (0, 1, 2), 2), steps_enough(Lots.all_of(3, 1), 1, (0,), (1, 9))]
[4, 0, 1]
>>> steps_enough(THREE, 1, (0, 1, 2), 1)
raises InvalidOperation
"""

NO_STEPS = ODD_VALUES + (-1, 25, (1, 1), PAIRS)
NO_VALUES = tuple(value for value in ODD_VALUES if repr(value) != "(1, 2, 3)") + (
    (1, 0), (1, 0, 0, 0), [1, 0, 0], (1, True, 0), (1, 0, None), (1, 0, (2, 4)), (1, 0, [1]), {0: 1}, THREE,
    (1, 0, 10 ** 60), (1, 0, THREE), (1, 0, "0"), 0, (1, 0, {}))
NO_NUMBERS = tuple(value for value in ODD_VALUES if repr(value) != "(0, 2)") + ("0", (0, 2), RING, [0])
BY_VALUES = (mean_of, variance, left_variance, led_values)


def value_rows(lots):
    """Some values for the lots."""
    many = len(lots)
    return ((1,) + (0,) * (many - 1), tuple(range(many)), (3,) * many, (0,) * many, tuple(
        ((-1) ** at * at, 2 * at + 1) if at % 3 == 1 else (1, 3) if at % 3 else -at for at in range(many)))


def chances(lots, lot, steps):
    """The chances after so many steps, by the table of the walk."""
    bag = bag_of(lots)
    found = [Fraction(other == lot) for other in bag.lots]
    for _ in range(steps):
        found = [sum(x * row[at] for x, row in zip(found, bag.redraw_rows()) if x) for at in range(len(found))]
    return found


class ExamplesTest(Checks):
    def test_examples(self):
        run_examples(self, ["pinnedgaps.bags.lots", "pinnedgaps.going.steps"], EXAMPLES)

    def test_constants(self):
        self.assertEqual((module.MOST_STEPS, module.MOST_ENOUGH), (24, 1000))


class SharesAfterTest(Checks):
    def test_shares_after(self):
        for lots in SMALL + (FIVES, SIXTIES):
            for lot in lots.lots[::4]:
                for steps in (0, 1, 2, 5):
                    found = shares_after(lots, lot, steps)
                    self.assert_fractions(found)
                    self.assertEqual(found, as_pairs(chances(lots, lot, steps)))

    def test_forty_lots(self):
        for lots in (FORTY_THREES, FORTY_FIVES):
            self.assertEqual(shares_after(lots, lots.lots[7], 2), as_pairs(chances(lots, lots.lots[7], 2)))
            self.assertEqual(sum(exact_row(shares_after(lots, lots.lots[7], 24))), 1)

    def test_no_step(self):
        for lots in ALL:
            lot = lots.lots[-1]
            self.assertEqual(shares_after(lots, lot, 0), ((0, 1),) * (len(lots) - 1) + ((1, 1),))
            self.assertEqual(exact(distance_after(lots, lot, 0)), 1 / exact(lots.share_of(lot)) - 1)

    def test_most_steps(self):
        for lots in (PAIRS, THREE, HEAVY, TWO, SINGLES):
            lot = lots.lots[0]
            self.assertEqual(shares_after(lots, lot, 24), as_pairs(chances(lots, lot, 24)))
            # 24 steps are 12 steps behind 12 steps.
            half = [exact_row(shares_after(lots, other, 12)) for other in lots.lots]
            self.assertEqual(exact_row(shares_after(lots, lot, 24)),
                             [sum(x * row[at] for x, row in zip(half[0], half)) for at in range(len(lots))])

    def test_one_lot_and_one_thing(self):
        for lots in (SINGLE, PAIR, ONE):
            lot = lots.lots[0]
            self.assertEqual([shares_after(lots, lot, steps) for steps in (0, 1, 24)], [((1, 1),)] * 3)
            self.assertEqual([distance_after(lots, lot, steps) for steps in (0, 1, 24)], [(0, 1)] * 3)
        shares = tuple(SINGLES.share_of(lot) for lot in SINGLES.lots)
        self.assertEqual([shares_after(SINGLES, (2,), steps) for steps in (1, 2, 24)], [shares] * 3)

    def test_distances(self):
        for lots in SMALL + (FIVES, SIXTIES):
            shares = bag_of(lots).shares()
            for lot in lots.lots[::4]:
                for steps in (0, 1, 3):
                    found = distance_after(lots, lot, steps)
                    self.assert_fractions((found,))
                    self.assertEqual(exact(found), sum(
                        (chance - share) ** 2 / share for chance, share in zip(chances(lots, lot, steps), shares)))

    def test_wrong_arguments(self):
        for call in (shares_after, distance_after):
            self.each_raises(InvalidPin, NO_PINS + ((), (0,)), lambda value, call=call: call(PAIRS, value, 0))
            self.each_refused_number(NO_STEPS, lambda value, call=call: call(PAIRS, (0, 1), value))
            self.refused_in_order(call, (PAIRS, (0, 1), 0), (
                (None, InvalidLots), ((0,), InvalidPin), (25, InvalidNumber)))
            self.lots_are_refused_first(NO_LOTS, ((call, ((0, 1), 0)), (call, (None, None))))


class ValuesTest(Checks):
    def test_means_and_variances(self):
        for lots in SMALL + (FIVES, SIXTIES, FORTY_PAIRS):
            bag = bag_of(lots)
            for values in value_rows(lots):
                numbers = exact_row(values)
                found = (mean_of(lots, values), variance(lots, values), left_variance(lots, values))
                self.assert_fractions(found)
                self.assertEqual(exact(found[0]), sum(x * share for x, share in zip(numbers, bag.shares())))
                self.assertEqual(exact(found[1]), bag.variance(numbers))
                self.assertEqual(exact(found[2]), bag.flow(numbers))

    def test_left_variances_by_their_words(self):
        for lots in SMALL + (FIVES,):
            bag = bag_of(lots)
            for values in value_rows(lots):
                numbers = dict(zip(bag.lots, exact_row(values)))
                wanted = Fraction(0)
                for lot, share in zip(bag.lots, bag.shares()):
                    for thing in lot:
                        others = [other for other in bag.lots if set(lot) - {thing} <= set(other)]
                        weight = sum(bag.weights[other] for other in others)
                        mean = sum(bag.weights[other] * numbers[other] for other in others) / weight
                        wanted += share / bag.size * sum(
                            bag.weights[other] * (numbers[other] - mean) ** 2 for other in others) / weight
                self.assertEqual(exact(left_variance(lots, values)), wanted)

    def test_led_values(self):
        for lots in SMALL + (FIVES, SIXTIES, FORTY_THREES):
            rows = bag_of(lots).redraw_rows()
            for values in value_rows(lots):
                found = led_values(lots, values)
                self.assert_fractions(found)
                self.assertEqual(exact_row(found), [sum(x * y for x, y in zip(row, exact_row(values))) for row in rows])

    def test_long_values(self):
        values = (SIXTY, (LONG, LONG_BOTTOM), (-LONG_BOTTOM, LONG))
        numbers, bag = exact_row(values), bag_of(THREE)
        self.assertEqual([exact(variance(THREE, values)), exact(left_variance(THREE, values)), exact(mean_of(THREE, values))],
                         [bag.variance(numbers), bag.flow(numbers), sum(numbers) / 3])

    def test_one_lot_and_one_thing(self):
        self.assertEqual([call(ONE, ((1, 3),)) for call in BY_VALUES], [(1, 3), (0, 1), (0, 1), ((1, 3),)])
        values = (1, (5, 2), -3, 0)
        self.assertEqual(variance(SINGLES, values), left_variance(SINGLES, values))
        self.assertEqual(led_values(SINGLES, values), (mean_of(SINGLES, values),) * 4)

    def test_wrong_values(self):
        for call in BY_VALUES:
            self.each_raises(InvalidRow, NO_VALUES, lambda value, call=call: call(THREE, value))
            self.refused_in_order(call, (THREE, (1, 0, 0)), ((None, InvalidLots), ((1, 0), InvalidRow)))
            self.lots_are_refused_first(NO_LOTS, ((call, ((0, 0),)), (call, (None,))))


class EnoughTest(Checks):
    def wanted(self, lots, gap, lot, number):
        left, steps = 1 / exact(lots.share_of(lot)) - 1, 0
        while left > exact(number):
            left *= (1 - exact(gap)) ** 2
            steps += 1
        return steps

    def test_least_steps(self):
        for lots in (PAIRS, THREE, HEAVY, CHAIN, UNLIKE, ONE, SINGLES):
            for gap in (near_gap(lots, 8), local_gap(lots, 4), (1, 50)):
                if exact(gap) > 0 and is_gap(lots, gap):
                    for number in (7, 1, (1, 3), (1, 10 ** 9), (LONG, 100 * LONG_BOTTOM)):
                        for lot in lots.lots[::3]:
                            self.assertEqual(steps_enough(lots, gap, lot, number), self.wanted(lots, gap, lot, number))

    def test_just_enough(self):
        # The distance is 2, a half each time squared.
        for steps in range(12):
            number = as_pair(2 * Fraction(1, 4) ** steps)
            self.assertEqual(steps_enough(THREE, (1, 2), (0, 1, 2), number), steps)
            below = as_pair(exact(number) - Fraction(1, 10 ** 70))
            self.assertEqual(steps_enough(THREE, (1, 2), (0, 1, 2), below), steps + 1)

    def test_a_gap_of_1(self):
        lots = Lots.all_of(3, 1)
        self.assertEqual([steps_enough(lots, 1, (0,), number) for number in (3, 2, (19, 10), (1, 10 ** 99))], [0, 0, 1, 1])
        self.assertEqual([steps_enough(ONE, 1, ONE.lots[0], number) for number in (1, (1, 10 ** 99))], [0, 0])
        self.assertEqual(steps_enough(SINGLES, (1, 1), (2,), (1, 100)), 1)

    def test_just_1000_and_more(self):
        # From a distance of 2 down to it times the power of 1000 steps, and a little less.
        for gap in ((1, 1000), (1, 3), (1, 2)):
            number = 2 * (1 - exact(gap)) ** 2000
            self.assertEqual(steps_enough(THREE, gap, (0, 1, 2), as_pair(number)), 1000)
            self.too_many(1000, steps_enough, THREE, gap, (0, 1, 2), as_pair(number * Fraction(999999, 1000000)))
            self.assertEqual(steps_enough(THREE, gap, (0, 1, 2), as_pair(number / (1 - exact(gap)) ** 2)), 999)
        self.too_many(1000, steps_enough, THREE, (1, 10 ** 70), (0, 1, 2), 1)
        self.assertEqual(steps_enough(THREE, (1, 10 ** 70), (0, 1, 2), 2), 0)

    def test_no_gaps_above_0(self):
        for gap in (0, -1, (-1, 2), (0, 1), 1, 2, (51, 100), (10 ** 70 + 1, 2 * 10 ** 70)):
            self.raised(InvalidOperation, steps_enough, THREE, gap, (0, 1, 2), 1)
        for number in (0, -1, (0, 1), (-1, 10 ** 70)):
            self.raised(InvalidOperation, steps_enough, THREE, (1, 2), (0, 1, 2), number)
        self.raised(InvalidOperation, steps_enough, TWO, (1, 10 ** 9), (0, 1, 2), 100)
        self.raised(InvalidOperation, steps_enough, ONE, 7, ONE.lots[0], 1)

    def test_wrong_arguments(self):
        right = (THREE, (1, 2), (0, 1, 2), 1)
        self.each_refused_number(NO_NUMBERS, lambda value: steps_enough(THREE, value, (0, 1, 2), 1))
        self.each_refused_number(NO_NUMBERS, lambda value: steps_enough(THREE, (1, 2), (0, 1, 2), value))
        self.each_raises(InvalidPin, NO_PINS + ((), (0,), (2,)), lambda value: steps_enough(PAIRS, (1, 2), value, 1))
        self.refused_in_order(steps_enough, right, (
            (None, InvalidLots), ((2, 4), InvalidNumber), ((0, 1), InvalidPin), (True, InvalidNumber)))
        self.raised(InvalidPin, steps_enough, THREE, 7, (0, 1), 0)
        self.refused_number("1", steps_enough, THREE, 7, (0, 1, 2), "1")
        self.lots_are_refused_first(NO_LOTS, ((steps_enough, right[1:]), (steps_enough, (None, None, None))))


class PromisesTest(Checks):
    def test_balance(self):
        for lots in SMALL + (FIVES,):
            for steps in (0, 1, 2, 7):
                rows = [exact_row(shares_after(lots, lot, steps)) for lot in lots.lots]
                weights = [exact(lots.weights[lot]) for lot in lots.lots]
                for i, row in enumerate(rows):
                    self.assertEqual(sum(row), 1)
                    for j, chance in enumerate(row):
                        self.assertEqual(weights[i] * chance, weights[j] * rows[j][i])

    def test_distances_by_twice_the_steps(self):
        for lots in SMALL + (FORTY_THREES,):
            for at, lot in list(enumerate(lots.lots))[::5]:
                for steps in (0, 1, 2, 6, 12):
                    back = exact(shares_after(lots, lot, 2 * steps)[at])
                    self.assertEqual(exact(distance_after(lots, lot, steps)), back / exact(lots.share_of(lot)) - 1)

    def test_gaps_by_variances(self):
        for lots in SMALL + (FIVES,):
            for values in value_rows(lots):
                whole, left = exact(variance(lots, values)), exact(left_variance(lots, values))
                self.assertEqual(left_variance(lots, values), flow_of(lots, values))
                self.assertLessEqual(left, whole)
                self.assertLessEqual(exact(near_gap(lots, 10)) * whole, left)

    def test_falling(self):
        for lots in SMALL + (FIVES,):
            gap = exact(near_gap(lots, 10))
            for lot in lots.lots[::4]:
                found = [exact(distance_after(lots, lot, steps)) for steps in range(8)]
                for steps in range(7):
                    self.assertLessEqual(found[steps + 1], (1 - gap) ** 2 * found[steps])
                    self.assertLessEqual(found[steps], (1 - gap) ** (2 * steps) * (1 / exact(lots.share_of(lot)) - 1))
            for values in value_rows(lots):
                led = led_values(lots, values)
                self.assertEqual(mean_of(lots, led), mean_of(lots, values))
                self.assertLessEqual(exact(variance(lots, led)), (1 - gap) ** 2 * exact(variance(lots, values)))

    def test_enough_steps_are_enough(self):
        for lots in (PAIRS, THREE, HEAVY, CHAIN):
            gap = near_gap(lots, 10)
            for lot in lots.lots:
                steps = steps_enough(lots, gap, lot, (1, 50))
                if steps <= 24:
                    self.assertLessEqual(exact(distance_after(lots, lot, steps)), Fraction(1, 50))

    def test_weights_count_up_to_a_number(self):
        for lots in (HEAVY, UNLIKE, LONGS):
            other = scaled_to(lots, (7, 13))
            lot = lots.lots[1]
            self.assertEqual(shares_after(lots, lot, 3), shares_after(other, lot, 3))
            self.assertEqual(distance_after(lots, lot, 2), distance_after(other, lot, 2))

    def test_chances_do_not_become_the_shares(self):
        shares = tuple(PAIRS.share_of(lot) for lot in PAIRS.lots)
        self.assertNotEqual(shares_after(PAIRS, (0, 1), 24), shares)
        self.assertGreater(distance_after(PAIRS, (0, 1), 24)[0], 0)
        self.assertEqual(shares_after(TWO, (0, 1, 2), 24), ((1, 1), (0, 1)))

    def test_distances_after_one_step_differ(self):
        lots = Lots.even(((0, 1), (1, 2), (2, 3)))
        found = {distance_after(lots, lot, 1) for lot in lots.lots}
        self.assertEqual(len({lots.share_of(lot) for lot in lots.lots}), 1)
        self.assertGreater(len(found), 1)

    def test_one_step_is_that_of_the_walk(self):
        for lots in SMALL:
            self.assertEqual(tuple(shares_after(lots, lot, 1) for lot in lots.lots), redraw_walk(lots))
