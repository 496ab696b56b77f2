"""The promises [1.3] to [1.5], and the functions of pinnedgaps.base.numbers."""

import sys
import unittest
from fractions import Fraction

from pinnedgaps.base import numbers
from pinnedgaps.base.numbers import (
    added, compared, divided, floor_of, fraction, grid_above, grid_below, is_fraction, is_integer, is_name,
    is_number, less, multiplied, number_of_text, number_text, power_of)
from pinnedgaps.errors import InvalidNumber, InvalidOperation, ParseError
from tests.exact import as_pair, exact
from tests.samples import LONG, LONG_BOTTOM, NO_WHOLE_NUMBERS, ODD_VALUES, SIXTY, SIXTY_ONE

LONG_FRACTION = (LONG, LONG_BOTTOM)
NUMBERS = (
    0, 1, -1, 7, -12, SIXTY, -SIXTY, (0, 1), (1, 1), (-5, 1), (1, 2), (-1, 2), (7, 3), (-7, 3), (99, 100),
    (SIXTY_ONE, 1), (-SIXTY_ONE, 7), LONG_FRACTION, (-LONG, LONG_BOTTOM), (1, LONG_BOTTOM), (LONG_BOTTOM, LONG),
)
PAIR_FUNCTIONS = (added, less, multiplied, divided, compared)


class NumbersTest(unittest.TestCase):
    def refused(self, given, call, *arguments):
        with self.assertRaises(InvalidNumber) as caught:
            call(*arguments)
        self.assertIs(caught.exception.given, given)

    def assert_pair(self, found, wanted):
        """Equal, and really a pair of integers in lowest terms."""
        self.assertEqual(found, as_pair(wanted))
        self.assertIs(type(found), tuple)
        self.assertEqual([type(part) for part in found], [int, int])


class ExamplesTest(NumbersTest):
    def test_judged(self):
        self.assertEqual(
            [is_name("Ab"), is_fraction((2, 4)), is_fraction((0, 1)), is_fraction((1, -2)), is_number((3, 1)),
             is_number((3, 1, 1)), is_number(True)],
            [False, False, True, False, True, False, False])

    def test_reckoned(self):
        self.assertEqual(
            [fraction(6, -4), added((1, 2), (1, 3)), less(1, (1, 4)), multiplied(6, (1, 4)), divided((1, 2), -3),
             power_of((-2, 3), -3), compared((1, 3), (2, 7))],
            [(-3, 2), (5, 6), (3, 4), (3, 2), (-1, 6), (-27, 8), 1])

    def test_grids(self):
        self.assertEqual(
            [floor_of((-3, 2)), grid_below((1, 3), 4), grid_above((1, 3), 4), grid_below((-1, 3), 1),
             grid_above((3, 4), 2), grid_below(7, 0)],
            [-2, (5, 16), (3, 8), (-1, 2), (3, 4), (7, 1)])

    def test_texts(self):
        self.assertEqual(
            [number_text((-3, 2)), number_text((4, 1)), number_of_text("-3/2"), number_of_text("0")],
            ["-3/2", "4", (-3, 2), (0, 1)])

    def test_refused(self):
        with self.assertRaises(InvalidNumber) as caught:
            grid_below((1, 3), 31)
        self.assertEqual(caught.exception.given, 31)


class ConstantsTest(unittest.TestCase):
    def test_constants(self):
        self.assertEqual(
            (numbers.MAX_NAME, numbers.MAX_RAISED, numbers.MAX_HALVINGS, numbers.MAX_TEXT), (8, 1000, 30, 400))


class JudgingTest(NumbersTest):
    def test_integers(self):
        for value in (0, 1, -1, SIXTY, -SIXTY):
            self.assertIs(is_integer(value), True)
        for value in ODD_VALUES + ((3, 1), LONG, -LONG):
            self.assertIs(is_integer(value), False)

    def test_names(self):
        for value in ("a", "z", "abc", "abcdefgh", "zzzzzzzz"):
            self.assertIs(is_name(value), True)
        for value in ODD_VALUES[:5] + ("abcdefghi", "A", "a1", "a b", "a_", "`", "{", " a", "a\n", ("a",), ["a"], 1):
            self.assertIs(is_name(value), False)

    def test_fractions(self):
        for value in NUMBERS:
            self.assertIs(is_fraction(value), isinstance(value, tuple))
        for value in ODD_VALUES + ((LONG * 3, LONG_BOTTOM * 3), (LONG, -LONG_BOTTOM), (0, LONG), (-2, 4), (0, 0)):
            self.assertIs(is_fraction(value), False)

    def test_numbers(self):
        for value in NUMBERS:
            self.assertIs(is_number(value), True)
        for value in ODD_VALUES:
            self.assertIs(is_number(value), False)


class FractionTest(NumbersTest):
    def test_quotients(self):
        parts = (0, 1, -1, 2, -6, 35, SIXTY, SIXTY_ONE, LONG, -LONG, 6 * LONG_BOTTOM)
        for top in parts:
            for bottom in parts:
                if bottom != 0:
                    self.assert_pair(fraction(top, bottom), Fraction(top, bottom))

    def test_wrong_tops(self):
        for value in NO_WHOLE_NUMBERS:
            self.refused(value, fraction, value, 2)

    def test_wrong_bottoms(self):
        for value in NO_WHOLE_NUMBERS + (0,):
            self.refused(value, fraction, 2, value)

    def test_the_top_is_refused_first(self):
        self.refused("top", fraction, "top", "bottom")
        self.refused(None, fraction, None, 0)


class ReckoningTest(NumbersTest):
    def test_sums_differences_and_products(self):
        for one in NUMBERS:
            for other in NUMBERS:
                left, right = exact(one), exact(other)
                self.assert_pair(added(one, other), left + right)
                self.assert_pair(less(one, other), left - right)
                self.assert_pair(multiplied(one, other), left * right)

    def test_quotients(self):
        for one in NUMBERS:
            for other in NUMBERS:
                if exact(other) != 0:
                    self.assert_pair(divided(one, other), exact(one) / exact(other))

    def test_compared(self):
        for one in NUMBERS:
            for other in NUMBERS:
                left, right = exact(one), exact(other)
                found = compared(one, other)
                self.assertEqual(found, (left > right) - (left < right))
                self.assertIs(type(found), int)

    def test_an_integer_and_its_fraction_are_the_same_number(self):
        self.assertEqual([compared(3, (3, 1)), added(3, 0), added((3, 1), (0, 1))], [0, (3, 1), (3, 1)])

    def test_nothing_is_divided_by_0(self):
        for one in (0, 1, (1, 2)):
            for other in (0, (0, 1)):
                with self.assertRaises(InvalidOperation):
                    divided(one, other)

    def test_wrong_numbers(self):
        for call in PAIR_FUNCTIONS:
            for value in ODD_VALUES:
                self.refused(value, call, value, 0)
                self.refused(value, call, 1, value)

    def test_the_first_wrong_number_is_refused(self):
        for call in PAIR_FUNCTIONS:
            self.refused("one", call, "one", "other")


class PowerTest(NumbersTest):
    def test_powers(self):
        for number in (1, -1, 2, (-2, 3), (5, 1), (1, 7), -10):
            for many in (0, 1, 2, 3, 8, 63, 1000, -1, -2, -3, -999, -1000):
                self.assert_pair(power_of(number, many), exact(number) ** many)

    def test_powers_of_0(self):
        self.assertEqual([power_of(0, 0), power_of((0, 1), 0), power_of(0, 1), power_of((0, 1), 1000)],
                         [(1, 1), (1, 1), (0, 1), (0, 1)])

    def test_0_has_no_power_below(self):
        for number in (0, (0, 1)):
            for many in (-1, -1000):
                with self.assertRaises(InvalidOperation):
                    power_of(number, many)

    def test_long_fractions(self):
        self.assert_pair(power_of(LONG_FRACTION, 20), Fraction(LONG, LONG_BOTTOM) ** 20)
        self.assert_pair(power_of((-LONG, LONG_BOTTOM), -3), Fraction(-LONG, LONG_BOTTOM) ** -3)

    def test_wrong_numbers(self):
        for value in ODD_VALUES:
            self.refused(value, power_of, value, 2)

    def test_wrong_exponents(self):
        for value in ODD_VALUES + (1001, -1001, (2, 1)):
            self.refused(value, power_of, 2, value)

    def test_the_first_error_is_raised(self):
        self.refused("number", power_of, "number", 1001)
        self.refused(-1001, power_of, 0, -1001)


class GridTest(NumbersTest):
    def test_floors(self):
        for number in NUMBERS:
            found = floor_of(number)
            self.assertIs(type(found), int)
            self.assertTrue(found <= exact(number) < found + 1)

    def test_grids_enclose_the_number(self):
        for number in NUMBERS:
            for halvings in (0, 1, 2, 5, 29, 30):
                step = Fraction(1, 2 ** halvings)
                below, above = grid_below(number, halvings), grid_above(number, halvings)
                self.assert_pair(below, exact(number) // step * step)
                self.assert_pair(above, -(-exact(number) // step) * step)

    def test_a_number_of_the_grid_is_its_own_neighbour(self):
        for number in ((3, 4), (-3, 4), 2, (0, 1)):
            wanted = as_pair(exact(number))
            self.assertEqual([grid_below(number, 2), grid_above(number, 2)], [wanted, wanted])

    def test_each_grid_is_a_part_of_the_next_one(self):
        for halvings in range(30):
            number = grid_below((22, 7), halvings)
            self.assertEqual(grid_below(number, halvings + 1), number)
            self.assertEqual(grid_above(number, halvings + 1), number)

    def test_wrong_numbers(self):
        for value in ODD_VALUES:
            self.refused(value, floor_of, value)
            self.refused(value, grid_below, value, 3)
            self.refused(value, grid_above, value, 3)

    def test_wrong_halvings(self):
        for call in (grid_below, grid_above):
            for value in ODD_VALUES + (-1, 31, 1000, (3, 1)):
                self.refused(value, call, (1, 3), value)

    def test_the_number_is_refused_first(self):
        for call in (grid_below, grid_above):
            self.refused("number", call, "number", -1)


class TextTest(NumbersTest):
    def test_texts(self):
        for number, text in ((0, "0"), ((0, 1), "0"), (5, "5"), ((5, 1), "5"), (-5, "-5"), ((-5, 1), "-5"),
                             ((3, 2), "3/2"), ((-3, 2), "-3/2"), (SIXTY, "9" * 60), ((SIXTY_ONE, 1), "1" + "0" * 60),
                             ((1, 10 ** 50), "1/1" + "0" * 50)):
            self.assertEqual(number_text(number), text)
            self.assertEqual(number_of_text(text), as_pair(exact(number)))

    def test_long_texts_of_numbers(self):
        self.assertEqual(number_text((10 ** 3999, 1)), "1" + "0" * 3999)
        self.assertEqual(number_text((-1, 10 ** 3999)), "-1/1" + "0" * 3999)

    def test_very_long_texts_of_numbers(self):
        # Python itself writes integers of up to 4300 digits alone.
        for digits in (999, 1000, 1001, 3999, 4300, 4301, 9000):
            for whole in (10 ** digits, 10 ** digits - 1, 10 ** digits + 10 ** (digits // 2)):
                self.assertEqual(number_text((whole, 1)), self.long_text(whole))
                self.assertEqual(number_text((-whole, 1)), "-" + self.long_text(whole))
        self.assertEqual(number_text((-7 ** 6000, 2 ** 20000)),
                         "-" + self.long_text(7 ** 6000) + "/" + self.long_text(2 ** 20000))

    def long_text(self, whole):
        sys.set_int_max_str_digits(0)
        try:
            return str(whole)
        finally:
            sys.set_int_max_str_digits(4300)

    def test_texts_of_400_characters(self):
        for text in ("1" + "0" * 399, "-" + "9" * 399, "1/" + "3" * 398, "-" + "7" * 99 + "/1" + "0" * 298):
            self.assertEqual(len(text), 400)
            self.assertEqual(number_text(number_of_text(text)), text)

    def test_texts_of_401_characters(self):
        for text in ("1" + "0" * 400, "-" + "9" * 400, "1/" + "3" * 399, "9" * 4000):
            self.unread(text)

    def test_each_number_is_that_of_its_text(self):
        for number in NUMBERS:
            if len(number_text(number)) <= 400:
                self.assertEqual(number_of_text(number_text(number)), as_pair(exact(number)))

    def test_no_texts_of_numbers(self):
        for text in ("", "-", "/", "-/", "+5", "05", "-0", "00", "--5", "5-", " 5", "5 ", "5\n", "1_000", "1.5", "1e3",
                     "x", "5/", "/5", "-/5", "5/1", "-5/1", "0/1", "0/5", "2/4", "-2/4", "1/-2", "-1/-2", "1/+2",
                     "1/02", "01/2", "1 /2", "1/ 2", "1/0", "0/0", "-0/2", "1//2", "1/2/3", "(1, 2)", "True"):
            self.unread(text)

    def test_digits_of_other_scripts_are_none(self):
        for text in ("\u0663", "\u00b2", "1/\u0663"):
            self.unread(text)

    def test_no_texts(self):
        for value in ODD_VALUES:
            if value != "1":
                self.unread(value)
        self.unread(5)
        self.unread(["5"])

    def test_wrong_numbers(self):
        for value in ODD_VALUES:
            self.refused(value, number_text, value)

    def unread(self, value):
        with self.assertRaises(ParseError) as caught:
            number_of_text(value)
        self.assertEqual(caught.exception.spot, 0)
        self.assertIs(type(caught.exception.spot), int)


class NotTrueTest(unittest.TestCase):
    def test_floors_of_sums_are_no_sums_of_floors(self):
        half = (1, 2)
        self.assertEqual([floor_of(added(half, half)), floor_of(half) + floor_of(half)], [1, 0])

    def test_doubled_multiples_are_not_those_of_doubled_numbers(self):
        for halvings in range(31):
            number = fraction(1, 2 ** (halvings + 1))
            twice = multiplied(2, number)
            self.assertEqual(multiplied(2, grid_below(number, halvings)), (0, 1))
            self.assertEqual(grid_below(twice, halvings), twice)
