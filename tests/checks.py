"""What several tests check in the same way."""

import unittest

from pinnedgaps.base.numbers import is_fraction
from pinnedgaps.errors import InvalidField, InvalidLots, InvalidNumber, Refused, TooMany, UnknownName


class Checks(unittest.TestCase):
    def raised(self, error, call, *arguments):
        """The error that the call raises, which must be just of this kind."""
        with self.assertRaises(error) as caught:
            call(*arguments)
        self.assertIs(type(caught.exception), error)
        return caught.exception

    def each_raises(self, error, values, call):
        """The call is refused for each of the values."""
        for value in values:
            with self.subTest(value=repr(value)[:80]):
                self.raised(error, call, value)

    def refused_number(self, given, call, *arguments):
        self.assertIs(self.raised(InvalidNumber, call, *arguments).given, given)

    def each_refused_number(self, values, call):
        """The call is refused for each of the values, and the error keeps it."""
        for value in values:
            with self.subTest(value=repr(value)[:80]):
                self.refused_number(value, call, value)

    def too_many(self, limit, call, *arguments):
        self.assertEqual(self.raised(TooMany, call, *arguments).limit, limit)

    def lots_are_refused_first(self, values, calls):
        """Each call, a pair of a function and of its other arguments, raises `InvalidLots` for each of the values."""
        for call, others in calls:
            for value in values:
                with self.subTest(call=call.__name__, value=repr(value)[:80]):
                    self.raised(InvalidLots, call, value, *others)

    def fields_are_refused_first(self, values, calls):
        """Each call, a pair of a function and of its other arguments, raises `InvalidField` for each of the values."""
        for call, others in calls:
            for value in values:
                with self.subTest(call=call.__name__, value=repr(value)[:80]):
                    self.raised(InvalidField, call, value, *others)

    def refused_in_order(self, call, right, wrong):
        """Each wrong argument is refused with its error, also if a later one is wrong; the call takes the right ones.

        `wrong` has for each of the first arguments a pair of a wrong value and of an error.
        """
        call(*right)
        for at, (value, error) in enumerate(wrong):
            for later in range(at, len(wrong)):
                arguments = list(right)
                arguments[later] = wrong[later][0]
                arguments[at] = value
                with self.subTest(call=call.__name__, at=at, later=later):
                    caught = self.raised(error, call, *arguments)
                    if error is InvalidNumber:
                        self.assertIs(caught.given, value)
                    if error is UnknownName:
                        self.assertIs(caught.name, value)

    def refused_for(self, reason, call, *arguments):
        self.assertEqual(self.raised(Refused, call, *arguments).reason, reason)

    def each_judged(self, wanted, values, judge):
        """The judge returns `wanted`, True or False, for each of the values."""
        for value in values:
            with self.subTest(value=repr(value)[:80]):
                self.assertIs(judge(value), wanted)

    def assert_fractions(self, values):
        for value in values:
            self.assertIs(type(value), tuple)
            self.assertTrue(is_fraction(value), value)

    def assert_fraction_rows(self, rows):
        self.assertIs(type(rows), tuple)
        for row in rows:
            self.assertIs(type(row), tuple)
            self.assert_fractions(row)
