"""Line-ups [0.9], [0.16], [6.1] to [6.4]."""

import itertools
import math
import types
import unittest

from downsets.base.lots import closed_lots
from downsets.base.orders import Order
from downsets.errors import InvalidLineup, InvalidLot, InvalidNumber, InvalidOrder, UnknownPlace
from downsets.ways.lineups import (
    index_of, is_lineup, lineup_at, lineup_number, lineups, next_lineup, position_counts, ways_through)
from tests.helper import (
    BOOLEAN, EXAMPLES, FLAT, FLAT_FORTY, FORTY, JUST_4000, JUST_4001, NAMES, NO_ORDERS, ONE, SEVEN, SQUARE, VEE, ZIG,
    Case, check_cases, check_error, check_judge, check_too_many, closed_case, five_orders, free_case, lineup_case,
    no_indices, no_lineups, order_case, place_case, slow_closed_lots, slow_lineups, small_orders, spread_orders,
    with_pairs)

SOME = small_orders() + five_orders(9) + spread_orders()
LADDER = with_pairs(FLAT_FORTY, list(zip(NAMES[:20], NAMES[1:20])) + list(zip(NAMES[20:], NAMES[21:])))


def lowered(order):
    """A line-up of any order, made without the package."""
    row = []
    while len(row) < len(order):
        row.append([name for name in order if name not in row and set(order.ahead(name)) <= set(row)][0])
    return tuple(row)


class JudgeTest(unittest.TestCase):
    def test_all_rows(self):
        for order in small_orders() + spread_orders()[-2:]:
            good = set(slow_lineups(order))
            for row in itertools.permutations(order.places):
                self.assertIs(is_lineup(order, row), row in good)

    def test_other_values(self):
        for order in EXAMPLES:
            check_judge(self, lambda value: is_lineup(order, value))
            for value in no_lineups(order):
                self.assertIs(is_lineup(order, value), False, repr(value))
        self.assertIs(is_lineup(ONE, ("a",)), True)
        self.assertIs(is_lineup(FLAT, ("a", "b", "b")), False)
        self.assertIs(is_lineup(FLAT, ("a", "b", "c", "c")), False)

    def test_forty_places(self):
        self.assertIs(is_lineup(FORTY, lowered(FORTY)), True)
        self.assertIs(is_lineup(FORTY, lowered(FORTY)[::-1]), False)
        self.assertIs(is_lineup(FLAT_FORTY, NAMES[::-1]), True)


class ListTest(unittest.TestCase):
    def test_against_slow_ones(self):
        for order in SOME:
            rows = slow_lineups(order)
            self.assertEqual(lineup_number(order), len(rows))
            self.assertEqual(list(lineups(order)), rows)
            for k in range(0, len(rows), 1 + len(rows) // 50):
                self.assertEqual(lineup_at(order, k), rows[k])
                self.assertEqual(index_of(order, rows[k]), k)
                self.assertEqual(next_lineup(order, rows[k]), rows[k + 1] if k + 1 < len(rows) else None)
            self.assertIs(next_lineup(order, rows[-1]), None)
            self.assertEqual(lineup_at(order, len(rows) - 1), rows[-1])

    def test_kinds(self):
        self.assertIsInstance(lineups(ZIG), types.GeneratorType)
        self.assertIs(type(lineup_at(ZIG, 0)), tuple)
        self.assertIs(type(next_lineup(ZIG, ("a", "b", "c", "d"))), tuple)
        self.assertEqual(list(lineups(ONE)), [("a",)])

    def test_the_highest_index_and_one_beyond(self):
        for order in EXAMPLES:
            many = lineup_number(order)
            self.assertEqual(lineup_at(order, many - 1), slow_lineups(order)[-1])
            for index in (many, many + 1, 10 ** 11):
                with self.assertRaises(InvalidNumber) as caught:
                    lineup_at(order, index)
                self.assertEqual(caught.exception.value, index)

    def test_they_are_found_when_they_are_requested(self):
        found = lineups(FLAT_FORTY)
        self.assertEqual(next(found), NAMES)
        self.assertEqual(next(found), NAMES[:38] + (NAMES[39], NAMES[38]))
        self.assertEqual(next_lineup(FLAT_FORTY, NAMES[::-1]), None)
        self.assertEqual(next(lineups(FORTY)), lowered(FORTY))

    def test_many_line_ups(self):
        self.assertEqual(lineup_number(Order.flat(SEVEN)), 5040)
        many = math.factorial(17) // math.factorial(4) ** 3
        self.assertEqual(lineup_number(JUST_4000), many)
        last = lineup_at(JUST_4000, many - 1)
        self.assertIs(next_lineup(JUST_4000, last), None)
        self.assertEqual(index_of(JUST_4000, last), many - 1)
        self.assertEqual(index_of(JUST_4000, lineup_at(JUST_4000, 123456789)), 123456789)
        self.assertEqual(lineup_number(LADDER), math.comb(40, 20))
        row = lineup_at(LADDER, 10 ** 11)
        self.assertEqual(index_of(LADDER, next_lineup(LADDER, row)), 10 ** 11 + 1)

    def test_a_generator_raises_at_its_first_element(self):
        for bad in NO_ORDERS:
            found = lineups(bad)
            with self.assertRaises(InvalidOrder):
                next(found)


class CountTest(unittest.TestCase):
    def test_ways_through(self):
        for order in SOME:
            rows = slow_lineups(order)
            total = 0
            for lot in slow_closed_lots(order):
                heads = {row[:len(lot)] for row in rows if set(row[:len(lot)]) == set(lot)}
                tails = {row[len(lot):] for row in rows if set(row[:len(lot)]) == set(lot)}
                self.assertEqual(ways_through(order, lot), (len(heads), len(tails)))
                total += len(heads) * len(tails)
            self.assertEqual(total, lineup_number(order) * (len(order) + 1))

    def test_position_counts(self):
        for order in SOME:
            rows = slow_lineups(order)
            for place in order:
                counts = position_counts(order, place)
                self.assertEqual(counts, tuple(sum(row[k] == place for row in rows) for k in range(len(order))))
                low, high = len(order.ahead(place)), len(order) - len(order.behind(place))
                self.assertEqual([k for k, many in enumerate(counts) if many], list(range(low, high)))
                for k in range(1, len(order) - 1):
                    self.assertGreaterEqual(counts[k] ** 2, counts[k - 1] * counts[k + 1])

    def test_ways_by_closed_lots(self):
        for order in SOME[::3]:
            closed = closed_lots(order)
            for row in slow_lineups(order)[:40]:
                for k in range(len(row) + 1):
                    self.assertIn(tuple(sorted(row[:k])), closed)

    def test_orders_put_together(self):
        for one in small_orders(3)[::2]:
            for other in small_orders(3):
                other = other.renamed({place: "x" + place for place in other})
                product = lineup_number(one) * lineup_number(other)
                self.assertEqual(lineup_number(one + other), product * math.comb(len(one) + len(other), len(one)))
                self.assertEqual(lineup_number(one >> other), product)

    def test_like_lots(self):
        for order in small_orders():
            for many in range(2, len(order)):
                for lot in itertools.combinations(order.places, many):
                    outside = [place for place in order if place not in lot]
                    if all(len({(p in order.ahead(x), p in order.behind(x)) for x in lot}) == 1 for p in outside):
                        made = order
                        for one, other in zip(slow_lineups(order.within(lot))[0], slow_lineups(order.within(lot))[0][1:]):
                            made = made.with_pair(one, other)
                        self.assertEqual(lineup_number(order), lineup_number(order.within(lot)) * lineup_number(made))

    def test_one_step_to_each_place(self):
        checked = 0
        for order in SOME:
            if all(len(order.down(place)) < 2 for place in order):
                product = lineup_number(order)
                for place in order:
                    product *= len(order.behind(place)) + 1
                self.assertEqual(product, math.factorial(len(order)))
                checked += 1
        self.assertGreater(checked, 100)


class WrongArgumentsTest(unittest.TestCase):
    def test_all(self):
        check_cases(self, is_lineup, order_case(VEE), free_case(None))
        check_cases(self, lineup_number, order_case(VEE))
        for order, row in ((ZIG, ("b", "a", "d", "c")), (ONE, ("a",))):
            check_cases(self, index_of, order_case(order), lineup_case(order, row))
            check_cases(self, next_lineup, order_case(order), lineup_case(order, row))
            check_cases(self, position_counts, order_case(order), place_case(order, "a"))
            check_cases(self, ways_through, order_case(order), closed_case(order, ("a",)))
            top = lineup_number(order) - 1
            check_cases(self, lineup_at, order_case(order), Case(0, no_indices(top), InvalidNumber, "value"))

    def test_too_many(self):
        row = lowered(BOOLEAN)
        for call in (lineup_number,):
            check_too_many(self, call, BOOLEAN)
            check_too_many(self, call, JUST_4001)
        check_too_many(self, lineup_at, BOOLEAN, 0)
        check_too_many(self, lineup_at, BOOLEAN, 10 ** 39)
        check_too_many(self, index_of, BOOLEAN, row)
        check_too_many(self, ways_through, BOOLEAN, ())
        check_too_many(self, position_counts, BOOLEAN, BOOLEAN.places[0])
        for bad in (-1, True, None, "0", (0,)):
            check_error(self, lineup_at, [BOOLEAN, bad], Case(0, [], InvalidNumber, "value"), bad)
        for bad in (row[::-1], list(row), None):
            check_error(self, index_of, [BOOLEAN, bad], Case(row, [], InvalidLineup), bad)
        for bad in (BOOLEAN.places[1:], None, ["a"]):
            check_error(self, ways_through, [BOOLEAN, bad], Case((), [], InvalidLot), bad)
        check_error(self, position_counts, [BOOLEAN, "zzz"], Case("", [], UnknownPlace, "place"), "zzz")
        self.assertEqual(position_counts(JUST_4000, NAMES[0])[0], math.factorial(16) // math.factorial(4) ** 3)

    def test_others_do_not_walk(self):
        for order in (BOOLEAN, FLAT_FORTY, FORTY):
            row = lowered(order)
            self.assertIs(is_lineup(order, row), True)
            self.assertEqual(next(lineups(order)), row)
            self.assertIs(is_lineup(order, next_lineup(order, row)), True)

    def test_not_closed(self):
        for lot in (("c",), ("a", "c"), ("b", "c")):
            with self.assertRaises(InvalidLot):
                ways_through(ZIG, lot)
        self.assertEqual(ways_through(SQUARE, ()), (1, 2))


if __name__ == "__main__":
    unittest.main()
