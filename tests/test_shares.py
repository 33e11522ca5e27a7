"""Shares and swaps [7.1] to [7.4]."""

import itertools
import math
import unittest
from fractions import Fraction

from downsets.base.orders import Order
from downsets.errors import InvalidLot, InvalidNumber, InvalidOperation, UnknownPlace
from downsets.ways.lineups import position_counts
from downsets.ways.shares import (
    fair_pair, is_fair_pair, is_swaps, mean_position, share, share_ahead, shares, swapped, swaps, unlike_pairs)
from tests.helper import (
    BOOLEAN, CROWN, EXAMPLES, FLAT, FLAT_FORTY, FORTY, JUST_4000, JUST_4001, NAMES, ONE, PAIRS, SQUARE, VEE, ZIG,
    Case, all_lots, check_cases, check_error, check_judge, check_too_many, five_orders, free_case, lineup_case,
    lot_case, no_indices, no_places, order_case, place_case, same, slow_lineups, small_orders, spoilt, spread_orders,
    with_pairs)

SOME = small_orders() + five_orders(13) + spread_orders()
SMALL = small_orders(3) + list(EXAMPLES)
TWO_CHAINS = with_pairs(
    FLAT_FORTY, list(zip(NAMES[:20], NAMES[1:20])) + list(zip(NAMES[20:], NAMES[21:])) + [(NAMES[4], NAMES[31])])


def plain(told):
    return (told.numerator, told.denominator)


def slow_share(order, one, other):
    rows = slow_lineups(order)
    return Fraction(sum(row.index(one) < row.index(other) for row in rows), len(rows))


def slow_shares(order):
    return {pair: slow_share(order, *pair) for pair in itertools.permutations(order.places, 2)}


def beside_pairs(order):
    return [pair for pair in itertools.permutations(order.places, 2)
            if pair not in order.pairs and pair[::-1] not in order.pairs]


def slow_unlike(lineup, second):
    return tuple((x, y) for x, y in itertools.combinations(sorted(lineup), 2)
                 if (lineup.index(x) < lineup.index(y)) != (second.index(x) < second.index(y)))


def slow_swaps(order, lineup, value):
    """The row that swaps lead to, or None if one is none."""
    row = list(lineup)
    for index in value:
        if type(index) is not int or not 0 <= index < len(row) - 1:
            return None
        pair = (row[index], row[index + 1])
        if pair in order.pairs or pair[::-1] in order.pairs:
            return None
        row[index:index + 2] = pair[::-1]
    return tuple(row)


class ShareTest(unittest.TestCase):
    def test_shares(self):
        for order in SOME:
            told = slow_shares(order)
            found = shares(order)
            self.assertEqual(found, {pair: plain(told[pair]) for pair in told})
            self.assertEqual(list(found), sorted(found))
            for one, other in list(told)[:8]:
                self.assertEqual(share(order, one, other), plain(told[(one, other)]))
        self.assertEqual(shares(ONE), {})

    def test_each_share(self):
        for order in EXAMPLES:
            for one, other in itertools.permutations(order.places, 2):
                self.assertEqual(share(order, one, other), plain(slow_share(order, one, other)))

    def test_share_ahead(self):
        for order in small_orders() + spread_orders()[:3]:
            rows = slow_lineups(order)
            for place in order:
                for lot in all_lots(order.without(place).places if len(order) > 1 else ())[:30]:
                    many = sum(all(row.index(place) < row.index(other) for other in lot) for row in rows)
                    self.assertEqual(share_ahead(order, place, lot), plain(Fraction(many, len(rows))))
                self.assertEqual(share_ahead(order, place, ()), (1, 1))

    def test_mean_position(self):
        for order in SOME:
            rows = slow_lineups(order)
            for place in order:
                mean = Fraction(sum(row.index(place) + 1 for row in rows), len(rows))
                self.assertEqual(mean_position(order, place), plain(mean))
                behind = sum((slow_share(order, other, place) for other in order if other != place), Fraction(1))
                self.assertEqual(mean, behind)
        self.assertEqual(mean_position(ONE, "a"), (1, 1))

    def test_product_of_shares(self):
        for order in SOME[::2]:
            for x, y, z in list(itertools.permutations(order.places, 3))[:30]:
                both = share_ahead(order, x, tuple(sorted((y, z))))
                product = Fraction(*share(order, x, y)) * Fraction(*share(order, x, z))
                self.assertLessEqual(product, Fraction(*both))

    def test_many_places(self):
        self.assertEqual(share(JUST_4000, NAMES[0], NAMES[1]), (1, 2))
        self.assertEqual(share(JUST_4000, NAMES[0], NAMES[8]), (4, 5))
        self.assertEqual(share_ahead(JUST_4000, NAMES[0], NAMES[1:5]), (1, 5))
        self.assertEqual(mean_position(JUST_4000, NAMES[1]), (9, 1))
        self.assertEqual(len(shares(JUST_4000)), 17 * 16)
        self.assertEqual(len(shares(TWO_CHAINS)), 1560)
        self.assertEqual(sum(position_counts(JUST_4000, NAMES[3])), math.factorial(17) // math.factorial(4) ** 3)


class FairTest(unittest.TestCase):
    def test_fair_pairs(self):
        for order in SOME:
            pairs = beside_pairs(order)
            if not pairs:
                self.assertIs(fair_pair(order), None)
                continue
            far = {pair: abs(slow_share(order, *pair) - Fraction(1, 2)) for pair in pairs}
            for pair in itertools.product(order.places, repeat=2):
                self.assertIs(is_fair_pair(order, pair), pair in far and far[pair] == min(far.values()))
            found = fair_pair(order)
            self.assertEqual(far[found], min(far.values()))
            self.assertIs(type(found), tuple)
            self.assertLessEqual(far[found], Fraction(1, 6))

    def test_chains(self):
        for order in (ONE, Order.chain(("b", "a")), Order.chain(tuple("gfedcba"))):
            self.assertIs(fair_pair(order), None)
            check_judge(self, lambda value: is_fair_pair(order, value))
            for value in [None, ()] + list(itertools.product(order.places, repeat=2)):
                self.assertIs(is_fair_pair(order, value), False)

    def test_orders_of_two_chains(self):
        found = fair_pair(TWO_CHAINS)
        self.assertIs(is_fair_pair(TWO_CHAINS, found), True)
        self.assertLessEqual(abs(Fraction(*share(TWO_CHAINS, *found)) - Fraction(1, 2)), Fraction(1, 6))

    def test_spoilt_pairs(self):
        for order in EXAMPLES:
            check_judge(self, lambda value: is_fair_pair(order, value))
            good = [pair for pair in beside_pairs(order) if is_fair_pair(order, pair)]
            for pair in good:
                for value in spoilt(pair):
                    told = any(same(value, other) for other in good)
                    self.assertIs(is_fair_pair(order, value), told, repr(value))


class SwapTest(unittest.TestCase):
    def test_unlike_pairs(self):
        for order in SMALL:
            for lineup in slow_lineups(order):
                for second in slow_lineups(order):
                    self.assertEqual(unlike_pairs(order, lineup, second), slow_unlike(lineup, second))

    def test_swapped(self):
        for order in SMALL + small_orders():
            for lineup in slow_lineups(order)[:6]:
                for index in range(len(order) - 1):
                    row = slow_swaps(order, lineup, (index,))
                    if row is None:
                        with self.assertRaises(InvalidOperation):
                            swapped(order, lineup, index)
                    else:
                        self.assertEqual(swapped(order, lineup, index), row)
                        self.assertIn(row, slow_lineups(order))

    def test_swaps(self):
        for order in SMALL + spread_orders()[-2:]:
            for lineup in slow_lineups(order)[:24]:
                for second in slow_lineups(order)[-24:]:
                    found = swaps(order, lineup, second)
                    self.assertIs(type(found), tuple)
                    self.assertEqual(slow_swaps(order, lineup, found), second)
                    self.assertEqual(len(found), len(slow_unlike(lineup, second)))
                    self.assertIs(is_swaps(order, lineup, second, found), True)
                    self.assertIs(is_swaps(order, second, lineup, found[::-1]), True)
                    if lineup != second:
                        self.assertIs(is_swaps(order, lineup, second, ()), False)
                self.assertEqual(swaps(order, lineup, lineup), ())

    def test_all_rows_of_swaps(self):
        for order in (ONE, VEE, FLAT, ZIG, PAIRS):
            for lineup in slow_lineups(order)[:3]:
                for second in slow_lineups(order):
                    least = len(slow_unlike(lineup, second))
                    for many in range(6):
                        for value in itertools.product(range(len(order) - 1), repeat=many):
                            good = many == least and slow_swaps(order, lineup, value) == second
                            self.assertIs(is_swaps(order, lineup, second, value), good)

    def test_spoilt_swaps(self):
        for order, lineup, second in (
                (ZIG, ("a", "b", "c", "d"), ("b", "d", "a", "c")), (FLAT, ("a", "b", "c"), ("c", "b", "a")),
                (PAIRS, ("a", "b", "c", "d"), ("c", "a", "b", "d")), (FLAT, ("a", "b", "c"), ("b", "a", "c")),
                (FLAT, ("a", "b", "c"), ("a", "c", "b")), (ONE, ("a",), ("a",))):
            found = swaps(order, lineup, second)
            check_judge(self, lambda value: is_swaps(order, lineup, second, value))
            for value in spoilt(found):
                good = isinstance(value, tuple) and len(value) == len(found) and slow_swaps(
                    order, lineup, value) == second
                self.assertIs(is_swaps(order, lineup, second, value), good, repr(value))
        self.assertIs(is_swaps(FLAT, ("a", "b", "c"), ("b", "a", "c"), (False,)), False)
        self.assertIs(is_swaps(FLAT, ("a", "b", "c"), ("a", "c", "b"), (True,)), False)
        self.assertIs(is_swaps(FLAT, ("a", "b", "c"), ("a", "c", "b"), (-2,)), False)
        self.assertIs(is_swaps(FLAT, ("a", "b", "c"), ("a", "c", "b"), [1]), False)

    def test_forty_places(self):
        found = swaps(FLAT_FORTY, NAMES, NAMES[::-1])
        self.assertEqual(len(found), 780)
        self.assertEqual(len(unlike_pairs(FLAT_FORTY, NAMES, NAMES[::-1])), 780)
        self.assertIs(is_swaps(FLAT_FORTY, NAMES, NAMES[::-1], found), True)
        self.assertIs(is_swaps(FLAT_FORTY, NAMES, NAMES[::-1], found[::-1]), True)
        self.assertEqual(swapped(FLAT_FORTY, NAMES, 38), NAMES[:38] + (NAMES[39], NAMES[38]))


class WrongArgumentsTest(unittest.TestCase):
    def test_shares(self):
        for order in (ZIG, CROWN):
            check_cases(self, share, order_case(order), place_case(order, "a"), place_case(order, "d"))
            check_cases(self, share_ahead, order_case(order), place_case(order, "b"), lot_case(order, ("c", "d")))
            check_cases(self, mean_position, order_case(order), place_case(order, "b"))
            for call in (shares, fair_pair):
                check_cases(self, call, order_case(order))
            check_cases(self, is_fair_pair, order_case(order), free_case(None))
        with self.assertRaises(InvalidOperation):
            share(ZIG, "a", "a")
        for bad in no_places(ZIG):
            check_error(self, share, [ZIG, bad, bad], Case("", [], UnknownPlace, "place"), bad)
        for lot in (("a",), ("a", "b"), ("a", "b", "c", "d")):
            with self.assertRaises(InvalidOperation):
                share_ahead(ZIG, "a", lot)
        with self.assertRaises(InvalidLot):
            share_ahead(ZIG, "a", ("b", "a"))

    def test_swaps(self):
        row = ("b", "a", "d", "c")
        lineup = lineup_case(ZIG, row)
        check_cases(self, unlike_pairs, order_case(ZIG), lineup, lineup)
        check_cases(self, swaps, order_case(ZIG), lineup, lineup)
        check_cases(self, is_swaps, order_case(ZIG), lineup, lineup, free_case(None))
        check_cases(self, swapped, order_case(ZIG), lineup, Case(0, no_indices(2), InvalidNumber, "value"))
        check_cases(self, lambda index: swapped(SQUARE, ("a", "b", "c", "d"), index),
                    Case(1, no_indices(2), InvalidNumber, "value"))
        for index in (0, 1, -1):
            with self.assertRaises(InvalidNumber):
                swapped(ONE, ("a",), index)
        for index in (0, 2):
            with self.assertRaises(InvalidOperation):
                swapped(SQUARE, ("a", "b", "c", "d"), index)

    def test_too_many(self):
        for order in (BOOLEAN, JUST_4001, FORTY):
            one, other = order.places[1:3]
            check_too_many(self, share, order, one, other)
            check_too_many(self, shares, order)
            check_too_many(self, share_ahead, order, one, (other,))
            check_too_many(self, mean_position, order, one)
            check_too_many(self, fair_pair, order)
            for value in (None, (one, other), (one, other, one), [], (one, one)):
                check_too_many(self, is_fair_pair, order, value)
        one, other = BOOLEAN.places[1:3]
        check_error(self, share, [BOOLEAN, one, "zzz"], Case("", [], UnknownPlace, "place"), "zzz")
        check_error(self, share, [BOOLEAN, one, one], Case("", [], InvalidOperation), one)
        check_error(self, share_ahead, [BOOLEAN, one, (one,)], Case("", [], InvalidOperation), one)
        check_error(self, share_ahead, [BOOLEAN, one, [other]], Case("", [], InvalidLot), one)
        check_error(self, mean_position, [BOOLEAN, None], Case("", [], UnknownPlace, "place"), None)


if __name__ == "__main__":
    unittest.main()
