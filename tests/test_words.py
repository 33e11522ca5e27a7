"""Places, fractions and integers [0.1], [0.3], [0.7], [0.13]."""

import itertools
import unittest
from fractions import Fraction

from downsets.base import words
from downsets.base.words import added, fraction, is_fraction, is_lower, is_place, multiplied
from downsets.errors import InvalidNumber, InvalidOperation
from tests.helper import ODD_VALUES, check_judge

LONG = 7 ** 60
NO_INTEGERS = (None, True, False, "1", (1,), [1], {}, ())
NO_FRACTIONS = (
    None, True, 1, "1/2", (), (1,), (1, 2, 3), [1, 2], (2, 4), (0, 2), (1, 0), (0, 0), (1, -2), (-1, -1), (0, -1),
    (True, 1), (1, True), (False, 1), (0, False), (1, None), ("1", 2), ((1, 2), 1), (10 ** 20, 10), {1: 2})


class PlaceTest(unittest.TestCase):
    def test_constant(self):
        self.assertEqual(words.MAX_LETTERS, 8)

    def test_places(self):
        for value in ("a", "z", "oak", "abcdefgh", "zzzzzzzz"):
            self.assertIs(is_place(value), True)

    def test_no_places(self):
        for value in ("", "abcdefghi", "A", "aB", "a1", "a b", " a", "a\n", "`", "{", "a-b", "\u00e9", "\u00df", "a.",
                      None, 1, True, ("a",), ["a"], {"a": 1}, ()):
            self.assertIs(is_place(value), False, repr(value))

    def test_odd_values(self):
        check_judge(self, is_place)


class FractionTest(unittest.TestCase):
    def test_lowest_terms(self):
        for above in range(-12, 13):
            for below in range(1, 13):
                told = Fraction(above, below)
                self.assertEqual(fraction(above, below), (told.numerator, told.denominator))

    def test_long_integers(self):
        self.assertEqual(fraction(LONG * 6, LONG * 4), (3, 2))
        self.assertEqual(fraction(-LONG, LONG), (-1, 1))
        self.assertEqual(fraction(0, LONG), (0, 1))
        self.assertEqual(fraction(LONG + 1, LONG), (LONG + 1, LONG))

    def test_result_is_a_plain_tuple(self):
        self.assertIs(type(fraction(6, 4)), tuple)

    def check_number(self, value, *arguments):
        with self.assertRaises(InvalidNumber) as caught:
            fraction(*arguments)
        self.assertIs(caught.exception.value, value)

    def test_wrong_arguments(self):
        for bad in NO_INTEGERS:
            self.check_number(bad, bad, 1)
            self.check_number(bad, 1, bad)
            self.check_number(bad, bad, 0)
            for other in NO_INTEGERS:
                self.check_number(bad, bad, other)
        for bad in (0, -1, -LONG):
            self.check_number(bad, 1, bad)
            self.check_number(None, None, bad)

    def test_is_fraction(self):
        for value in ((3, 2), (2, 1), (0, 1), (-1, 3), (1, 1), (LONG, 2), (LONG, LONG + 1)):
            self.assertIs(is_fraction(value), True)
        for value in NO_FRACTIONS:
            self.assertIs(is_fraction(value), False, repr(value))
        check_judge(self, is_fraction)


class ReckoningTest(unittest.TestCase):
    def setUp(self):
        told = {Fraction(above, below) for above in range(-4, 5) for below in range(1, 5)}
        self.values = [(one.numerator, one.denominator) for one in sorted(told)]

    def plain(self, told):
        return (told.numerator, told.denominator)

    def test_is_lower(self):
        for one, other in itertools.product(self.values, repeat=2):
            self.assertIs(is_lower(one, other), Fraction(*one) < Fraction(*other))
        self.assertIs(is_lower((LONG, LONG + 1), (LONG + 1, LONG + 2)), True)

    def test_added_and_multiplied(self):
        self.assertEqual((added(), multiplied()), ((0, 1), (1, 1)))
        for one in self.values:
            self.assertEqual((added(one), multiplied(one)), (one, one))
        for one, other in itertools.product(self.values, repeat=2):
            self.assertEqual(added(one, other), self.plain(Fraction(*one) + Fraction(*other)))
            self.assertEqual(multiplied(one, other), self.plain(Fraction(*one) * Fraction(*other)))
        self.assertEqual(added(*self.values), (0, 1))
        self.assertEqual(added(*[(1, k) for k in range(1, 40)]),
                         self.plain(sum([Fraction(1, k) for k in range(1, 40)])))
        self.assertEqual(multiplied(*[(k, k + 1) for k in range(1, 100)]), (1, 100))
        self.assertEqual(multiplied((LONG, 2), (2, LONG)), (1, 1))

    def test_wrong_arguments(self):
        for bad in NO_FRACTIONS:
            for call in (added, multiplied):
                for arguments in ((bad,), (bad, (1, 2)), ((1, 2), bad), ((1, 2), (1, 3), bad, bad)):
                    with self.assertRaises(InvalidOperation):
                        call(*arguments)
            for arguments in ((bad, (1, 2)), ((1, 2), bad), (bad, bad)):
                with self.assertRaises(InvalidOperation):
                    is_lower(*arguments)

    def test_odd_values(self):
        for bad in ODD_VALUES:
            if not is_fraction(bad):
                with self.assertRaises(InvalidOperation):
                    added((0, 1), bad)


if __name__ == "__main__":
    unittest.main()
