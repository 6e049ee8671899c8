"""Part 1a: all errors, their classes and what they keep."""

from unittest import TestCase

from poolmaps import errors

PLAIN = (
    "InvalidWeb", "InvalidPool", "InvalidWord", "InvalidRow", "InvalidTask", "InvalidRule", "InvalidKind",
    "InvalidMachine", "InvalidName", "InvalidOperation",
)
KEEPING = {
    "InvalidNumber": (IndexError, "given"), "UnknownName": (KeyError, "wanted"),
    "NothingToUndo": (LookupError, "many"), "TooMany": (OverflowError, "limit"),
    "Refused": (ArithmeticError, "claim"), "ParseError": (errors.PoolError, "at"),
}


class ErrorsTest(TestCase):
    def test_plain_errors_derive_directly_from_pool_error(self):
        self.assertEqual(errors.PoolError.__bases__, (ValueError,))
        for name in PLAIN:
            error = getattr(errors, name)
            self.assertEqual(error.__bases__, (errors.PoolError,))
            self.assertEqual(str(error("why it is so")), "why it is so")
            self.assertEqual(error.__module__, "poolmaps.errors")

    def test_keeping_errors_derive_directly_and_keep_their_argument(self):
        for name, (base, kept) in KEEPING.items():
            error = getattr(errors, name)
            self.assertEqual(error.__bases__, (base,))
            for value in (None, 3, -1, 10 ** 100 - 1, True, "x", (1, (2,)), [1], {}, object()):
                made = error(value)
                self.assertIs(getattr(made, kept), value)
                self.assertIsInstance(str(made), str)

    def test_there_are_no_other_errors(self):
        made = {name for name, value in vars(errors).items() if isinstance(value, type)}
        self.assertEqual(made, {"PoolError", *PLAIN, *KEEPING})

    def test_they_are_caught_as_what_they_derive_from(self):
        for error, base in ((errors.InvalidNumber(1), LookupError), (errors.TooMany(2), ArithmeticError),
                            (errors.ParseError(None), ValueError), (errors.UnknownName("a"), LookupError)):
            with self.assertRaises(base):
                raise error
