"""The promises [1.1] and [1.2]."""

import unittest

from pinnedgaps import errors
from tests.samples import LONG, deep

OWN = ("InvalidLots", "InvalidPin", "InvalidTable", "InvalidRow", "InvalidField", "InvalidOrder",
       "InvalidPledge", "InvalidOperation", "ParseError")
KEEPERS = (
    ("InvalidNumber", IndexError, "given"), ("UnknownName", KeyError, "name"),
    ("NothingToUndo", RuntimeError, "wanted"), ("TooMany", OverflowError, "limit"),
    ("Refused", ArithmeticError, "reason"), ("ParseError", errors.GapError, "spot"),
)


class FamilyTest(unittest.TestCase):
    def test_gap_error_is_directly_a_value_error(self):
        self.assertEqual(errors.GapError.__bases__, (ValueError,))

    def test_own_errors_are_directly_gap_errors(self):
        for name in OWN:
            with self.subTest(name):
                self.assertEqual(getattr(errors, name).__bases__, (errors.GapError,))

    def test_no_own_error_is_caught_as_another_one(self):
        for name in OWN:
            for other in OWN:
                if name != other:
                    self.assertFalse(issubclass(getattr(errors, name), getattr(errors, other)))

    def test_other_errors_are_directly_those_of_python(self):
        for name, base, _ in KEEPERS:
            with self.subTest(name):
                self.assertEqual(getattr(errors, name).__bases__, (base,))

    def test_other_errors_are_no_gap_errors(self):
        for name, base, _ in KEEPERS[:-1]:
            self.assertFalse(issubclass(getattr(errors, name), errors.GapError), name)

    def test_all_are_defined_in_their_module(self):
        for name in ("GapError",) + OWN + tuple(row[0] for row in KEEPERS):
            self.assertEqual(getattr(errors, name).__module__, "pinnedgaps.errors")


class KeptTest(unittest.TestCase):
    def test_messages_are_taken(self):
        for name in ("GapError",) + OWN[:-1]:
            with self.subTest(name):
                with self.assertRaises(errors.GapError) as caught:
                    raise getattr(errors, name)("a message")
                self.assertIs(type(caught.exception), getattr(errors, name))

    def test_any_value_is_kept(self):
        values = (0, 1, True, False, None, "", "a", (), ("sum", (1, 1)), [1, [2]], {"a": 1}, LONG, deep(8), errors)
        for name, base, attribute in KEEPERS:
            for value in values:
                with self.subTest(name):
                    with self.assertRaises(base) as caught:
                        raise getattr(errors, name)(value)
                    self.assertIs(getattr(caught.exception, attribute), value)

    def test_each_takes_one_value(self):
        for name, _, _ in KEEPERS:
            with self.assertRaises(TypeError):
                getattr(errors, name)()
            with self.assertRaises(TypeError):
                getattr(errors, name)(1, 2)

    def test_a_kept_value_can_be_passed_by_its_name(self):
        for name, _, attribute in KEEPERS:
            made = getattr(errors, name)(**{attribute: 3})
            self.assertEqual(getattr(made, attribute), 3)
