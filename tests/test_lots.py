"""Lots [0.8], [0.22], [3.1]."""

import types
import unittest

from downsets.base import lots
from downsets.base.lots import (
    chains_up, closed_by_size, closed_lots, closed_number, common, firsts, flat_lots, is_chain, is_closed, is_flat,
    is_lot, last_places, next_places, rest, tops, union)
from downsets.base.orders import Order
from downsets.errors import InvalidLot, InvalidOrder
from tests.helper import (
    BOOLEAN, EXAMPLES, FLAT_FORTY, FORTY, JUST_4000, JUST_4001, NAMES, NO_ORDERS, ONE, SQUARE, ZIG, all_lots,
    check_cases, check_judge, check_too_many, closed_case, five_orders, lot_case, no_lots, order_case,
    slow_chain, slow_closed, slow_closed_lots, slow_flat, small_orders, spread_orders, with_pairs)

WALKS = (closed_lots, closed_number, closed_by_size, flat_lots)
JUDGES = (is_lot, is_closed, is_flat, is_chain)
SOME = small_orders() + spread_orders()


def put(lot, place):
    return tuple(sorted(lot + (place,)))


def taken(lot, place):
    return tuple(name for name in lot if name != place)


class JudgeTest(unittest.TestCase):
    def test_against_slow_ones(self):
        for order in SOME + five_orders(5):
            for lot in all_lots(order.places):
                self.assertIs(is_lot(order, lot), True)
                self.assertIs(is_closed(order, lot), slow_closed(order, lot))
                self.assertIs(is_flat(order, lot), slow_flat(order, lot))
                self.assertIs(is_chain(order, lot), slow_chain(order, lot))

    def test_small_lots_are_flat_and_chains(self):
        for order in EXAMPLES:
            for lot in [()] + [(place,) for place in order]:
                self.assertIs(is_flat(order, lot) and is_chain(order, lot), True)

    def test_no_lots(self):
        for order in EXAMPLES:
            for judge in JUDGES:
                for bad in no_lots(order):
                    self.assertIs(judge(order, bad), False, repr(bad))
                check_judge(self, lambda value: judge(order, value))

    def test_wrong_orders(self):
        for judge in JUDGES:
            for bad in NO_ORDERS:
                for value in ((), None):
                    with self.assertRaises(InvalidOrder):
                        judge(bad, value)


class ListTest(unittest.TestCase):
    def test_closed_and_flat_lots(self):
        for order in SOME + five_orders():
            closed = slow_closed_lots(order)
            self.assertEqual(closed_lots(order), closed)
            self.assertEqual(closed_number(order), len(closed))
            self.assertEqual(closed_by_size(order), tuple(
                sum(len(lot) == many for lot in closed) for many in range(len(order) + 1)))
            flat = tuple(lot for lot in all_lots(order.places) if slow_flat(order, lot))
            self.assertEqual(flat_lots(order), flat)

    def test_chains_up(self):
        for order in SOME + five_orders():
            chains = [set(lot) for lot in all_lots(order.places) if slow_chain(order, lot)]
            full = [tuple(sorted(lot)) for lot in chains if not any(lot < other for other in chains)]
            self.assertEqual(list(chains_up(order)), full)

    def test_chains_of_many_places(self):
        self.assertEqual(len(list(chains_up(BOOLEAN))), 120)
        self.assertEqual(len(list(chains_up(FORTY))), 210)
        for order in (BOOLEAN, FORTY):
            found = list(chains_up(order))
            self.assertEqual(found, sorted(set(found)))
            self.assertTrue(all(is_chain(order, lot) for lot in found))
        self.assertEqual(list(chains_up(FLAT_FORTY)), [(name,) for name in NAMES])
        chain = with_pairs(FLAT_FORTY, zip(NAMES[1:], NAMES))
        self.assertEqual(list(chains_up(chain)), [NAMES])

    def test_chains_are_found_when_they_are_requested(self):
        # Thirteen levels of three places: 1,594,323 full chains.
        rows = [NAMES[k:k + 3] for k in range(0, 39, 3)]
        order = with_pairs(FLAT_FORTY.within(NAMES[:39]), [
            (one, other) for k in range(12) for one in rows[k] for other in rows[k + 1]])
        found = chains_up(order)
        self.assertIsInstance(found, types.GeneratorType)
        for last in rows[12]:
            self.assertEqual(next(found), tuple(row[0] for row in rows[:12]) + (last,))
        self.assertEqual(next(found), tuple(row[0] for row in rows[:11]) + (rows[11][1], rows[12][0]))
        # The same with all names turned round.
        order = order.renamed(dict(zip(NAMES[:39], NAMES[38::-1])))
        self.assertEqual(next(chains_up(order)), NAMES[0:39:3])

    def test_a_generator_raises_at_its_first_element(self):
        for bad in NO_ORDERS:
            found = chains_up(bad)
            with self.assertRaises(InvalidOrder):
                next(found)


class PartTest(unittest.TestCase):
    def test_tops_firsts_rest(self):
        for order in SOME:
            pairs = order.pairs
            for lot in all_lots(order.places):
                self.assertEqual(tops(order, lot), tuple(x for x in lot if not any((x, y) in pairs for y in lot)))
                self.assertEqual(firsts(order, lot), tuple(y for y in lot if not any((x, y) in pairs for x in lot)))
                self.assertEqual(rest(order, lot), tuple(x for x in order if x not in lot))

    def test_union_and_common(self):
        for order in EXAMPLES:
            for lot in all_lots(order.places):
                for other in all_lots(order.places):
                    self.assertEqual(union(order, lot, other), tuple(sorted(set(lot) | set(other))))
                    self.assertEqual(common(order, lot, other), tuple(sorted(set(lot) & set(other))))

    def test_next_and_last_places(self):
        for order in SOME:
            for lot in slow_closed_lots(order):
                more = [place for place in order if place not in lot and slow_closed(order, put(lot, place))]
                less = [place for place in lot if slow_closed(order, taken(lot, place))]
                self.assertEqual(next_places(order, lot), tuple(more))
                self.assertEqual(last_places(order, lot), tuple(less))
                self.assertEqual(last_places(order, lot), tops(order, lot))

    def test_closed_lots_of_the_whole(self):
        for order in SOME:
            closed = closed_lots(order)
            for lot in closed:
                self.assertTrue(is_closed(~order, rest(order, lot)))
                self.assertTrue(is_flat(order, tops(order, lot)))
                for other in closed[:12]:
                    self.assertTrue(is_closed(order, union(order, lot, other)))
                    self.assertTrue(is_closed(order, common(order, lot, other)))
            for lot in flat_lots(order):
                told = [other for other in closed if tops(order, other) == lot]
                self.assertEqual(told, [order.closure(lot)])

    def test_forty_places(self):
        self.assertEqual(rest(FORTY, NAMES[:39]), NAMES[39:])
        self.assertEqual(union(FLAT_FORTY, NAMES[:20], NAMES[20:]), NAMES)
        self.assertEqual(next_places(FLAT_FORTY, NAMES[1:39]), (NAMES[0], NAMES[39]))
        self.assertEqual(last_places(FLAT_FORTY, NAMES), NAMES)


class WrongArgumentsTest(unittest.TestCase):
    def test_lots(self):
        for order in (ZIG, ONE):
            for call in (tops, firsts, rest):
                check_cases(self, call, order_case(order), lot_case(order, order.places))
            for call in (union, common):
                check_cases(self, call, order_case(order), lot_case(order, ()), lot_case(order, ("a",)))
        for call in (next_places, last_places):
            check_cases(self, call, order_case(ZIG), closed_case(ZIG, ("b",)))
            check_cases(self, call, order_case(SQUARE), closed_case(SQUARE, ()))
            with self.assertRaises(InvalidLot):
                call(ZIG, ("c",))

    def test_lists(self):
        for call in WALKS:
            check_cases(self, call, order_case(ZIG))

    def test_too_many(self):
        self.assertEqual(lots.MAX_CLOSED, 4000)
        self.assertEqual(len(closed_lots(JUST_4000)), 4000)
        self.assertEqual(len(flat_lots(JUST_4000)), 4000)
        self.assertEqual(closed_number(JUST_4000), 4000)
        self.assertEqual(sum(closed_by_size(JUST_4000)), 4000)
        for order in (JUST_4001, BOOLEAN, FORTY, FLAT_FORTY):
            for call in WALKS:
                check_too_many(self, call, order)
        self.assertEqual(closed_number(Order.flat(tuple("abcdefg"))), 128)

    def test_others_do_not_walk(self):
        for order in (BOOLEAN, FLAT_FORTY):
            self.assertIs(is_closed(order, order.firsts), True)
            self.assertEqual(tops(order, order.places), order.tops)
            self.assertEqual(firsts(order, order.places), order.firsts)
            self.assertEqual(rest(order, ()), order.places)
            self.assertEqual(next_places(order, ()), order.firsts)
            self.assertEqual(last_places(order, order.places), order.tops)
            self.assertTrue(next(chains_up(order)))


if __name__ == "__main__":
    unittest.main()
