"""Tests of deckwork.errors."""

import unittest

from deckwork import errors

PLAIN = ("InvalidState", "InvalidCount", "TooLong", "UnknownCard", "TooManyOrders", "InvalidValues",
         "InvalidValue", "Contradiction", "InvalidRegister", "InvalidName", "UnknownName")
PLACED = ("InvalidCode", "InvalidOperation", "InvalidSession")


class ErrorsTest(unittest.TestCase):
    def test_base_class(self):
        self.assertEqual(errors.DeckError.__bases__, (ValueError,))

    def test_all_others_are_direct_subclasses(self):
        for name in PLAIN + PLACED + ("SyntaxFault", "CheckFault"):
            with self.subTest(name=name):
                self.assertEqual(getattr(errors, name).__bases__, (errors.DeckError,))
                self.assertEqual(getattr(errors, name).__module__, "deckwork.errors")

    def test_plain_errors_take_a_message(self):
        for name in PLAIN:
            with self.subTest(name=name):
                with self.assertRaises(errors.DeckError):
                    raise getattr(errors, name)("why")

    def test_syntax_fault(self):
        for fault in (errors.SyntaxFault(2, 5), errors.SyntaxFault(line=2, column=5)):
            self.assertEqual((fault.line, fault.column), (2, 5))

    def test_check_fault(self):
        for fault in (errors.CheckFault("wrap", 0, 5), errors.CheckFault(reason="wrap", line=0, column=5)):
            self.assertEqual((fault.reason, fault.line, fault.column), ("wrap", 0, 5))

    def test_places(self):
        for name in PLACED:
            with self.subTest(name=name):
                self.assertEqual(getattr(errors, name)(3).place, 3)
                self.assertEqual(getattr(errors, name)(place=0).place, 0)


if __name__ == "__main__":
    unittest.main()
