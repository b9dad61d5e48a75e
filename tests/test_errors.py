import unittest

from lastproof import errors
from lastproof.errors import (
    LastproofError, NoClause, NoDerivation, NoLiteral, NoSet, NoTerm, NotWaiting, NoWorld,
    OutOfRange, TextFault, UnknownClause,
)

WITH_FIELDS = [
    (NotWaiting, "number", 7),
    (NoLiteral, "literal", 3),
    (UnknownClause, "number", 12),
    (OutOfRange, "name", "count"),
]
PLAIN = [NoTerm, NoClause, NoDerivation, NoSet, NoWorld]
ALL = [TextFault] + PLAIN + [row[0] for row in WITH_FIELDS]


class ErrorsTest(unittest.TestCase):
    def test_base_derives_from_value_error(self):
        self.assertEqual(LastproofError.__bases__, (ValueError,))

    def test_each_error_derives_from_the_base_and_from_nothing_else(self):
        for error in ALL:
            self.assertEqual(error.__bases__, (LastproofError,), error)
            for other in ALL:
                if other is not error:
                    self.assertFalse(issubclass(error, other), (error, other))

    def test_the_file_defines_each_error(self):
        for error in ALL + [LastproofError]:
            self.assertEqual(error.__module__, "lastproof.errors")
            self.assertIs(getattr(errors, error.__name__), error)

    def test_text_fault_has_its_fields(self):
        fault = TextFault(3, 14, "a formula")
        self.assertEqual((fault.line, fault.column, fault.expected), (3, 14, "a formula"))
        self.assertIsInstance(fault.line, int)
        self.assertIsInstance(str(fault), str)

    def test_text_fault_takes_its_arguments_by_their_names(self):
        fault = TextFault(expected="the end", column=2, line=1)
        self.assertEqual((fault.line, fault.column, fault.expected), (1, 2, "the end"))

    def test_each_error_with_one_field_has_it(self):
        for error, field, value in WITH_FIELDS:
            self.assertEqual(getattr(error(value), field), value)
            self.assertEqual(getattr(error(**{field: value}), field), value)

    def test_fields_are_set_from_the_argument(self):
        self.assertEqual(NotWaiting(10 ** 30).number, 10 ** 30)
        self.assertEqual(NoLiteral(0).literal, 0)
        self.assertEqual(UnknownClause(0).number, 0)
        self.assertEqual(OutOfRange("").name, "")

    def test_errors_can_be_raised_and_caught_by_the_base(self):
        for raised in [TextFault(1, 1, "x"), NoTerm("x"), NoClause(), NotWaiting(1), OutOfRange("size")]:
            with self.assertRaises(LastproofError):
                raise raised
            with self.assertRaises(ValueError):
                raise raised
