"""Errors [0.22]."""

import unittest

from downsets import errors

BASES = {
    "OrderError": ValueError, "InvalidOrder": errors.OrderError, "InvalidLot": errors.OrderError,
    "InvalidLineup": errors.OrderError, "InvalidOperation": errors.OrderError, "ParseError": errors.OrderError,
    "UnknownPlace": KeyError, "InvalidNumber": ArithmeticError, "Circle": LookupError,
    "TooMany": OverflowError, "NothingToUndo": IndexError, "Refused": RuntimeError,
}
KEPT = {
    "ParseError": "line", "UnknownPlace": "place", "InvalidNumber": "value", "Circle": "circle",
    "TooMany": "limit", "NothingToUndo": "many", "Refused": "reason",
}
PLAIN = ("OrderError", "InvalidOrder", "InvalidLot", "InvalidLineup", "InvalidOperation")
ANY = (None, True, 0, -1, 10 ** 5000, "", "a" * 10000, (), tuple(range(5000)), [1], {"a": [1]}, ((((1,),),),))


class ErrorsTest(unittest.TestCase):
    def test_each_is_derived_directly(self):
        for name, base in BASES.items():
            self.assertEqual(getattr(errors, name).__bases__, (base,), name)

    def test_no_other_is_an_order_error(self):
        for name in BASES:
            is_order_error = issubclass(getattr(errors, name), errors.OrderError)
            self.assertEqual(is_order_error, name in PLAIN or name == "ParseError", name)
        found = [name for name, value in vars(errors).items() if isinstance(value, type)]
        self.assertEqual(sorted(found), sorted(BASES))

    def test_plain_ones_take_one_argument_or_none(self):
        for name in PLAIN:
            error = getattr(errors, name)
            self.assertIsInstance(error(), error)
            for value in ANY:
                self.assertIsInstance(error(value), error)

    def test_the_others_keep_what_they_take(self):
        for name, kept in KEPT.items():
            for value in ANY:
                error = getattr(errors, name)(value)
                self.assertIs(getattr(error, kept), value)
                self.assertIsInstance(str(error), str)

    def test_they_can_be_raised_and_caught(self):
        for name, base in BASES.items():
            with self.assertRaises(base):
                raise getattr(errors, name)("x")


if __name__ == "__main__":
    unittest.main()
